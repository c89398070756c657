"""Spans in a row of places: which places are to be taken so that each span has one, or as many as can be.

A span is a pair (low, high): it *has* each place from low to high. The last place that is taken is -1 while none is.
"""


def least_sum(fined, prices):
    """The least sum of the prices of places and of the fines of the spans without one, and the places, ascending.

    fined is a list of pairs (span, fine), prices a list of the price of each place.
    """
    # By the last place that is taken: the least sum so far, and the places.
    best = {-1: (0, ())}
    for place, price in enumerate(prices):
        total, taken = min(best.values())
        best[place] = (total + price, taken + (place,))
        for (low, high), fine in fined:
            if high == place:
                best = {
                    last: (own + fine if last < low else own, places) for last, (own, places) in best.items()
                }
    return min(best.values())


def most_weights(spans, prices):
    """Of each span a weight, as much as can be in all, so that the spans that have a place weigh at most its price.

    spans is a dict of spans by keys; so is what is returned.
    """
    left = list(prices)
    weighed = {}
    # Those that end first bar the least: each later one that shares a place with them has all from there to their end.
    for high, low, key in sorted([(high, low, key) for key, (low, high) in spans.items()]):
        weighed[key] = min(left[low:high + 1])
        for place in range(low, high + 1):
            left[place] -= weighed[key]
    return weighed


def next_places(spans, last):
    """The list of the places that can be taken next, so that no span behind the last one stays without; [] for none."""
    ends = [high for low, high in spans if low > last]
    return list(range(last + 1, min(ends) + 1)) if ends else []


def ways_behind(spans, many):
    """Of each last place in a row of so many: how few more places all spans need, and in how many ways so few do."""
    found = {}
    for last in range(many - 1, -2, -1):
        behind = [found[place] for place in next_places(spans, last)]
        if behind:
            least = min([few for few, _ in behind])
            found[last] = (least + 1, sum([ways for few, ways in behind if few == least]))
        else:
            found[last] = (0, 1)
    return found


def nth_way(spans, many, number):
    """The ascending tuple of so few places with this number of all such ones, ascending; None if there is none."""
    found = ways_behind(spans, many)
    if not 0 <= number < found[-1][1]:
        return None
    places = [-1]
    left = number
    for few in range(found[-1][0] - 1, -1, -1):
        fit = [place for place in next_places(spans, places[-1]) if found[place][0] == few]
        for place in fit:
            if left < found[place][1]:
                places.append(place)
                break
            left -= found[place][1]
    return tuple(places[1:])


def more_with(spans, last, place):
    """How many spans have the place, and not the last one that is taken."""
    return len([low for low, high in spans if last < low <= place <= high])


def most_spans(spans, many):
    """The greatest number of spans with one of at most so many places, and these places, ascending."""
    # Any place can be changed for the first end of the spans that have it.
    ends = sorted({high for _, high in spans})
    more = {(last, place): more_with(spans, last, place) for place in ends for last in [-1] + ends if last < place}
    best = (0, ())
    by_last = {-1: best}
    for _ in range(many):
        longer = {}
        for place in ends:
            choices = [
                (number + more[(last, place)], places + (place,))
                for last, (number, places) in by_last.items() if last < place
            ]
            if choices:
                longer[place] = max(choices)
        by_last = longer
        most = max(list(longer.values()), default=best)
        # One more place is worth nothing by itself.
        best = most if most[0] > best[0] else best
    return best
