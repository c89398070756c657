"""Wishes: lines that are to be surely ahead of others, and the flushes that are put in for them or left out.

All SPOTs of a Program stand in one row, ascending. Those at which a flush keeps a wish stand there side by side; they
are told by a span: the pair of the first and the last of their places in this row.
"""

from lateshown.errors import NoNumber, NoSpot, NoWish
from lateshown.plain import is_number, is_pair, tupled
from lateshown.programs import FLUSH, Program, WRITE, is_line, without_deed, written_at
from lateshown.spans import least_sum, most_spans, most_weights, nth_way, ways_behind
from lateshown.tables import surely_before, table_of, told_in


def is_wish(program, thing):
    """Whether thing is a wish of the Program."""
    if not is_pair(thing) or not all([is_line(part) and part in program for part in thing]):
        return False
    one, other = thing
    return one[0] != other[0] and written_at(program, one) < written_at(program, other)


def check_wishes(program, wishes):
    """Raises NoWish(wish) for the first of them that is no wish of the Program."""
    for wish in tupled(wishes):
        if not is_wish(program, wish):
            raise NoWish(wish)


def all_wishes(program):
    """The set of all wishes of the Program."""
    lines = program.lines
    pairs = [(one, other) for place, one in enumerate(lines) for other in lines[place + 1:]]
    return tuple(sorted([(one, other) for one, other in pairs if one[0] != other[0]]))


def kept(program, wishes):
    """The set of those of the wishes that the Program keeps; raises NoWish(wish)."""
    check_wishes(program, wishes)
    told = told_in(program)
    return tuple([(one, other) for one, other in sorted(set(tupled(wishes))) if surely_before(told, one, other)])


def row_of(program):
    """The ascending list of all SPOTs of the Program."""
    return [(stream, place) for stream in program.streams for place in range(len(program) + 1)]


def span_of(program, wish):
    """The span of the SPOTs at which a flush keeps the wish."""
    one, other = wish
    start = program.streams.index(one[0]) * (len(program) + 1)
    return start + written_at(program, one) + 1, start + written_at(program, other)


def spans_of(program, wishes):
    """A dict of the spans of those wishes that the Program does not keep, by these, ascending; raises NoWish(wish)."""
    done = kept(program, wishes)
    return {wish: span_of(program, wish) for wish in sorted(set(tupled(wishes))) if wish not in done}


def spots_at(program, places):
    """The set of the SPOTs at these places of the row, these ascending."""
    row = row_of(program)
    return tuple([row[place] for place in places])


def costs_of(program, prices):
    """The list of the prices of all SPOTs in the row."""
    rows = dict(tupled(prices))
    return [rows[stream][place] if stream in rows else 1 for stream, place in row_of(program)]


def put_in(program, spots):
    """The Program with flushes at these SPOTs, those at one place by their streams; raises NoSpot(spot)."""
    row = row_of(program)
    wanted = tupled(spots)
    for spot in wanted:
        if spot not in row:
            raise NoSpot(spot)
    deeds = []
    for place in range(len(program) + 1):
        deeds.extend([(FLUSH, stream) for stream in program.streams if (stream, place) in wanted])
        deeds.extend(program.deeds[place:place + 1])
    return Program(deeds)


def how_few(program, wishes):
    """The least number of flushes that are to be put in to keep all wishes; raises NoWish(wish)."""
    return least_cost(program, wishes, ())


def fewest(program, wishes):
    """A set of so few SPOTs for flushes that keep all wishes; raises NoWish(wish)."""
    return cheapest(program, wishes, ())


def apart(program, wishes):
    """A set of the most wishes that are not kept, no flush keeping two of them; raises NoWish(wish)."""
    # Where each SPOT costs 1, no wish weighs more than 1, and no two weigh so much at one SPOT.
    return tuple([wish for wish, _ in weights(program, wishes, ())])


def is_apart(program, wishes, thing):
    """Whether thing is such a set; raises NoWish(wish)."""
    weighed = tuple([(wish, 1) for wish in thing]) if isinstance(thing, tuple) else None
    return is_weights(program, wishes, (), weighed)


def how_many_fewest(program, wishes):
    """How many sets of so few SPOTs there are for flushes that keep all wishes; raises NoWish(wish)."""
    spans = spans_of(program, wishes)
    _, ways = ways_behind(list(spans.values()), len(row_of(program)))[-1]
    return ways


def nth_fewest(program, wishes, number):
    """The one of these sets with this number, ascending from 0; raises NoWish(wish), NoNumber(number)."""
    spans = spans_of(program, wishes)
    places = nth_way(list(spans.values()), len(row_of(program)), number)
    if places is None:
        raise NoNumber(number)
    return spots_at(program, places)


def least_to_pay(program, wishes, prices):
    """The least sum of prices for SPOTs by which all wishes are kept, and the places of these; raises NoWish(wish)."""
    spans = spans_of(program, wishes)
    costs = costs_of(program, prices)
    # A fine that is more than all prices together is never paid.
    return least_sum([(span, sum(costs) + 1) for span in spans.values()], costs)


def least_cost(program, wishes, prices):
    """The least sum of the prices of SPOTs for flushes that keep all wishes; raises NoWish(wish)."""
    total, _ = least_to_pay(program, wishes, prices)
    return total


def cheapest(program, wishes, prices):
    """A set of SPOTs with this sum; raises NoWish(wish)."""
    _, places = least_to_pay(program, wishes, prices)
    return spots_at(program, places)


def weights(program, wishes, prices):
    """What shows that it cannot cost less: weights of wishes, together the least cost; raises NoWish(wish)."""
    weighed = most_weights(spans_of(program, wishes), costs_of(program, prices))
    return tuple(sorted([(wish, weight) for wish, weight in weighed.items() if weight > 0]))


def are_weighed(spans, thing):
    """Whether thing is an ascending tuple of pairs, of unlike ones of these wishes and a number from 1."""
    if not isinstance(thing, tuple) or not all([is_pair(part) and is_pair(part[0]) for part in thing]):
        return False
    if not all([is_line(one) and is_line(other) and (one, other) in spans for (one, other), _ in thing]):
        return False
    if not all([is_number(weight) and weight >= 1 for _, weight in thing]):
        return False
    wishes = [wish for wish, _ in thing]
    return wishes == sorted(set(wishes))


def is_weights(program, wishes, prices, thing):
    """Whether thing are such weights; raises NoWish(wish)."""
    spans = spans_of(program, wishes)
    if not are_weighed(spans, thing):
        return False
    left = costs_of(program, prices)
    for wish, weight in thing:
        low, high = spans[wish]
        for place in range(low, high + 1):
            left[place] -= weight
    if min(left, default=0) < 0:
        return False
    return sum([weight for _, weight in thing]) == least_cost(program, wishes, prices)


def least_to_lose(program, fines, prices):
    """The least sum of prices and of the fines of wishes that are not kept, and the places; raises NoWish(wish)."""
    by_wish = dict(tupled(fines))
    spans = spans_of(program, list(by_wish))
    return least_sum([(span, by_wish[wish]) for wish, span in spans.items()], costs_of(program, prices))


def least_loss(program, fines, prices):
    """The least sum of the prices of SPOTs and of the fines of the wishes not kept even so; raises NoWish(wish)."""
    total, _ = least_to_lose(program, fines, prices)
    return total


def best_loss(program, fines, prices):
    """A set of SPOTs with this sum; raises NoWish(wish)."""
    _, places = least_to_lose(program, fines, prices)
    return spots_at(program, places)


def most_kept(program, wishes, many):
    """How many of the wishes are kept at the most with at most so many flushes put in; raises NoWish(wish)."""
    spans = spans_of(program, wishes)
    more, _ = most_spans(list(spans.values()), many)
    return len(kept(program, wishes)) + more


def most_spots(program, wishes, many):
    """A set of at most so many SPOTs by which so many are kept; raises NoWish(wish)."""
    spans = spans_of(program, wishes)
    _, places = most_spans(list(spans.values()), many)
    return spots_at(program, places)


def fewest_beside(program, wishes, others):
    """A set of as few SPOTs as can be by which all wishes are kept and none of others; None if there is none.

    Raises NoWish(wish).
    """
    spans = spans_of(program, wishes)
    if kept(program, others):
        return None
    barred = list(spans_of(program, others).values())
    row = row_of(program)
    # What is barred, or not kept, costs more than all else together.
    most = len(row) + 1
    costs = [most if any([low <= place <= high for low, high in barred]) else 1 for place in range(len(row))]
    total, places = least_sum([(span, most) for span in spans.values()], costs)
    return spots_at(program, places) if total < most else None


def flush_places(program):
    """The ascending list of the places of all flushes of the Program."""
    return [place for place, (word, _) in enumerate(program.deeds) if word == FLUSH]


def idle_flushes(program):
    """The ascending list of the places of the flushes each of which can be left out alone."""
    table = table_of(program)
    return [place for place in flush_places(program) if table_of(without_deed(program, place)) == table]


def flush_groups(program):
    """The list of the lists of the places of those flushes of a stream ahead of which as many of its lines stand."""
    groups = {}
    for place in flush_places(program):
        _, stream = program[place]
        groups.setdefault((stream, program.deeds[:place].count((WRITE, stream))), []).append(place)
    return list(groups.values())


def how_many_first(program, group):
    """Of how many of the first flushes of the group one has to stay; 0 if all of them can be left out."""
    _, stream = program[group[0]]
    ahead = program.deeds[:group[0]].count((WRITE, stream))
    for place in range(group[0], len(program)):
        word, name = program[place]
        if word == FLUSH and name == stream and place not in group:
            return 0
        if word == WRITE and name != stream:
            # Behind this line it is too late: one of those ahead of it has to let out what they all find.
            return len([own for own in group if own < place]) if ahead > 0 else 0
    return 0


def how_many_spare(program):
    """How many sets of flushes can be left out, all at once."""
    ways = 1
    for group in flush_groups(program):
        first = how_many_first(program, group)
        barred = 1 << (len(group) - first) if first > 0 else 0
        ways = ways * ((1 << len(group)) - barred)
    return ways


def thinned(program):
    """What is left if as many flushes as can be are left out, those that stay standing as far ahead as can be."""
    stay = [group[0] for group in flush_groups(program) if how_many_first(program, group) > 0]
    return Program([deed for place, deed in enumerate(program.deeds) if deed[0] == WRITE or place in stay])


def least_wishes(program):
    """The set of as few wishes as can be that the Program keeps and by which it keeps all that it keeps."""
    told = told_in(program)
    found = {}
    for line in program.lines:
        for one in told[line].items():
            # The last line that is sure, and the first one behind it: each other wish follows from such ones.
            found.setdefault(one, line)
    return tuple(sorted(found.items()))


def forced(program, wishes):
    """The set of all wishes that each Program with the same WRITES keeps if it keeps these; raises NoWish(wish)."""
    check_wishes(program, wishes)
    places = {line: place for place, line in enumerate(program.lines)}
    spans = [(one[0], places[one], places[other]) for one, other in tupled(wishes)]
    return tuple([
        (one, other) for one, other in all_wishes(program)
        if any([one[0] == stream and places[one] <= low and high <= places[other] for stream, low, high in spans])
    ])
