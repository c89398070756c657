"""Places: where the lines of a Program stand in all its OUTPUTs."""

from lateshown.errors import NoLine
from lateshown.outputs import check_output, how_many_outputs, lazy_output
from lateshown.plain import fraction, tupled
from lateshown.states import chains_by, chains_of, layers_from, next_steps, start_of, ways_from, ways_on
from lateshown.tables import surely_before, told_in, unsure_pairs


def told_with(program, *lines):
    """What is told of the LINEs of the Program; raises NoLine(line) for the first of these that is none of them."""
    for line in lines:
        if line not in program:
            raise NoLine(line)
    return told_in(program)


def places_of(program, line):
    """The pair of the least and the greatest place of the LINE in all OUTPUTs; raises NoLine(line)."""
    told = told_with(program, line)
    own = tupled(line)
    ahead = [other for other in told if surely_before(told, other, own)]
    behind = [other for other in told if surely_before(told, own, other)]
    return len(ahead), len(told) - 1 - len(behind)


def often_at(program, line):
    """The list of the pairs (place, in how many OUTPUTs the LINE stands there); raises NoLine(line)."""
    low, high = places_of(program, line)
    wanted = tupled(line)
    chains = chains_of(program)
    layers = layers_from(chains, start_of(chains))
    ways = ways_on(chains, layers)
    often = []
    for place in range(low, high + 1):
        # Each way to a state goes on with each way behind the LINE.
        often.append((place, sum([
            many * ways[after]
            for state, many in layers[place].items()
            for own, after in next_steps(chains, state)
            if own == wanted
        ])))
    return often


def mean_place(program, line):
    """The mean of the places of the LINE in all OUTPUTs, a FRACTION; raises NoLine(line)."""
    often = often_at(program, line)
    return fraction(sum([place * many for place, many in often]), sum([many for _, many in often]))


def ahead_often(program, one, other):
    """In how many OUTPUTs one stands ahead of other; raises NoLine(line)."""
    told = told_with(program, one, other)
    stream, number = one
    needs = told[tupled(other)]
    needs[stream] = max(number, needs.get(stream, 0))
    chains = chains_by(told)
    return ways_from(chains, start_of(chains))


def share_ahead(program, one, other):
    """The share of the OUTPUTs in which one stands ahead of other, a FRACTION; raises NoLine(line)."""
    return fraction(ahead_often(program, one, other), how_many_outputs(program))


def can_be_ahead(told, one, other):
    """Whether one stands ahead of other in some OUTPUT by what is told."""
    return one != other and not surely_before(told, other, one)


def can_stand_between(program, one, other):
    """The set of the LINEs that stand between both in some OUTPUT with one ahead of other; raises NoLine(line)."""
    told = told_with(program, one, other)
    first, second = tupled(one), tupled(other)
    if not can_be_ahead(told, first, second):
        return ()
    return tuple([
        line for line in told if can_be_ahead(told, first, line) and can_be_ahead(told, line, second)
    ])


def between(program, one, other):
    """The least and the greatest number of LINEs between both, one ahead of other; None if that is never so.

    Raises NoLine(line).
    """
    told = told_with(program, one, other)
    first, second = tupled(one), tupled(other)
    if not can_be_ahead(told, first, second):
        return None
    sure = [line for line in told if surely_before(told, first, line) and surely_before(told, line, second)]
    return len(sure), len(can_stand_between(program, one, other))


def both_between(program, one, other):
    """The list of what between tells of one ahead of other and of other ahead of one, without None."""
    pairs = [between(program, one, other), between(program, other, one)]
    return [pair for pair in pairs if pair is not None]


def can_be_neighbours(program, one, other):
    """Whether both stand beside one another in some OUTPUT; raises NoLine(line)."""
    return any([least == 0 for least, _ in both_between(program, one, other)])


def always_neighbours(program, one, other):
    """Whether both stand beside one another in all OUTPUTs; raises NoLine(line)."""
    found = both_between(program, one, other)
    # Of a line and itself there is nothing to tell.
    return found != [] and all([most == 0 for _, most in found])


def sure_heads(program):
    """The ascending tuple of the numbers m such that the first m LINEs of all OUTPUTs are the same set."""
    last = [places_of(program, line)[1] for line in program.lines]
    return tuple([
        many for many in range(len(last) + 1) if len([place for place in last if place < many]) == many
    ])


def pieces(program):
    """The list of the sets of the LINEs from one sure head to the next one."""
    heads = sure_heads(program)
    first = {line: places_of(program, line)[0] for line in sorted(program.lines)}
    return [
        tuple([line for line, place in first.items() if low <= place < high])
        for low, high in zip(heads, heads[1:])
    ]


def order_of_both(program, one, other):
    """The LINEs of one as their places in other; raises NoOutput() if one of both is no OUTPUT."""
    check_output(program, one)
    check_output(program, other)
    places = {line: place for place, line in enumerate(tupled(other))}
    return [places[line] for line in tupled(one)]


def swaps(program, one, other):
    """A shortest list of OUTPUTs from one to other, two neighbours changing their places; raises NoOutput()."""
    places = order_of_both(program, one, other)
    lines = tupled(other)
    rows = [tupled(one)]
    for end in range(len(lines)):
        at = end
        while at > 0 and places[at - 1] > places[at]:
            places[at - 1], places[at] = places[at], places[at - 1]
            rows.append(tuple([lines[place] for place in places]))
            at -= 1
    return rows


def far_apart(program, one, other):
    """How many pairs of LINEs stand the other way about in other; raises NoOutput()."""
    places = order_of_both(program, one, other)
    return sum([
        len([behind for behind in places[at:] if behind < place])
        for at, place in enumerate(places)
    ])


def showing(program):
    """A tuple of few OUTPUTs in which of each two unsure LINEs each is ahead of the other one."""
    if not program.streams:
        return ((),)
    return tuple([lazy_output(program, stream) for stream in program.streams])


def shows_all(program, outputs):
    """Whether of each two unsure LINEs each is ahead of the other one in one of these; raises NoOutput()."""
    for order in outputs:
        check_output(program, order)
    shown = [{line: place for place, line in enumerate(output)} for output in tupled(outputs)]
    return all([
        len({places[one] < places[other] for places in shown}) == 2
        for one, other in unsure_pairs(program)
    ])
