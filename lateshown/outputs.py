"""Outputs: the orders in which the lines of a Program can come out, with any habits of the streams."""

from lateshown.errors import NoNumber, NoOutput, NoStart
from lateshown.plain import is_number, tupled
from lateshown.programs import FLUSH, WRITE, flushed_at, is_line, written_at
from lateshown.states import chains_of, layers_from, next_steps, start_of, ways_from, ways_on
from lateshown.tables import surely_before, told_in


def come_by(chains, lines):
    """The pair of the last state to which the lines lead, and of the first place whose LINE cannot come, or None."""
    state = start_of(chains)
    for place, line in enumerate(lines):
        behind = [after for own, after in next_steps(chains, state) if own == line]
        if not behind:
            return state, place
        state = behind[0]
    return state, None


def state_behind(chains, lines):
    """The state behind these lines; raises NoStart(place)."""
    state, place = come_by(chains, tupled(lines))
    if place is not None:
        raise NoStart(place)
    return state


def is_start(program, thing):
    """Whether thing is a tuple of LINEs with which some OUTPUT begins."""
    if not isinstance(thing, tuple) or not all([is_line(part) for part in thing]):
        return False
    _, place = come_by(chains_of(program), thing)
    return place is None


def is_output(program, thing):
    """Whether thing is an OUTPUT."""
    return is_start(program, thing) and len(thing) == len(program.lines)


def check_output(program, order):
    """Raises NoOutput() if the ORDER is no OUTPUT."""
    if not is_output(program, tupled(order)):
        raise NoOutput()


def broken_at(program, order):
    """The first place whose LINE lacks one ahead of it, and the least such one; None for an OUTPUT."""
    told = told_in(program)
    out = {}
    for place, line in enumerate(tupled(order)):
        lacking = [one for one in told if one not in out and surely_before(told, one, line)]
        if lacking:
            return place, lacking[0]
        out[line] = True
    return None


def schedule(program, output):
    """A schedule of the OUTPUT, each line as early as can be; raises NoOutput()."""
    check_output(program, output)
    places = []
    last = 0
    for line in output:
        last = max(last, written_at(program, line) + 1)
        places.append(last)
    return tuple(places)


def can_go_at(program, line, place):
    """Whether the LINE is written ahead of the place, and not flushed ahead of it."""
    flushed = flushed_at(program, line)
    return written_at(program, line) < place <= (len(program) if flushed is None else flushed)


def is_schedule(program, output, thing):
    """Whether thing is a schedule of the OUTPUT; raises NoOutput()."""
    check_output(program, output)
    if not isinstance(thing, tuple) or not all([is_number(place) for place in thing]):
        return False
    if len(thing) != len(output) or list(thing) != sorted(thing):
        return False
    return all([can_go_at(program, line, place) for line, place in zip(output, thing)])


def next_lines(program, lines):
    """The set of the LINEs that stand next in some OUTPUT that begins with lines; raises NoStart(place)."""
    chains = chains_of(program)
    return tuple([line for line, _ in next_steps(chains, state_behind(chains, lines))])


def last_lines(program):
    """The set of the LINEs with which some OUTPUT ends."""
    told = told_in(program)
    return tuple([line for line in told if not any([surely_before(told, line, other) for other in told])])


def outputs_behind(program, lines):
    """How many OUTPUTs begin with lines; raises NoStart(place)."""
    chains = chains_of(program)
    return ways_from(chains, state_behind(chains, lines))


def how_many_outputs(program):
    """How many OUTPUTs there are."""
    chains = chains_of(program)
    return ways_from(chains, start_of(chains))


def how_many_sets_seen(program):
    """How many sets of LINEs are just the first ones, so many, of some OUTPUT."""
    chains = chains_of(program)
    return sum([len(layer) for layer in layers_from(chains, start_of(chains))])


def output_at(program, number):
    """The OUTPUT with this number, ascending from 0; raises NoNumber(number)."""
    chains = chains_of(program)
    state = start_of(chains)
    ways = ways_on(chains, layers_from(chains, state))
    if not 0 <= number < ways[state]:
        raise NoNumber(number)
    lines = []
    left = number
    while len(lines) < len(program.lines):
        for line, after in next_steps(chains, state):
            if left < ways[after]:
                lines.append(line)
                state = after
                break
            left -= ways[after]
    return tuple(lines)


def number_of_output(program, order):
    """The number of the OUTPUT; None if the ORDER is none."""
    wanted = tupled(order)
    if not is_output(program, wanted):
        return None
    chains = chains_of(program)
    state = start_of(chains)
    ways = ways_on(chains, layers_from(chains, state))
    number = 0
    for line in wanted:
        steps = next_steps(chains, state)
        number += sum([ways[after] for own, after in steps if own < line])
        state = [after for own, after in steps if own == line][0]
    return number


def changes_of(order):
    """How often a LINE stands directly behind one of another stream."""
    return len([True for one, other in zip(order, order[1:]) if one[0] != other[0]])


def cheapest_next(costs, stream, price):
    """The least pair (cost, next stream) behind a LINE of the stream, a change at this price; (0, None) at the end."""
    pairs = [(cost if other == stream else cost + price, other) for other, cost in costs.items()]
    return min(pairs, default=(0, None))


def costs_on(chains, price):
    """Of each state, by the stream of the LINE that comes next: the least cost of the changes from that LINE on."""
    costs = {}
    for layer in layers_from(chains, start_of(chains))[::-1]:
        for state in layer:
            steps = next_steps(chains, state)
            costs[state] = {line[0]: cheapest_next(costs[after], line[0], price)[0] for line, after in steps}
    return costs


def least_cost_of(program, price):
    """The least cost of the changes of an OUTPUT, each one at this price."""
    chains = chains_of(program)
    return min(costs_on(chains, price)[start_of(chains)].values(), default=0)


def fewest_changes(program):
    """The least number of changes of all OUTPUTs."""
    return least_cost_of(program, 1)


def most_changes(program):
    """The greatest number of changes of all OUTPUTs."""
    return -least_cost_of(program, -1)


def with_fewest_changes(program):
    """An OUTPUT with the least number of changes."""
    chains = chains_of(program)
    costs = costs_on(chains, 1)
    state = start_of(chains)
    lines = []
    stream = None
    while costs[state]:
        stream = cheapest_next(costs[state], stream, 1)[1]
        line, state = [step for step in next_steps(chains, state) if step[0][0] == stream][0]
        lines.append(line)
    return tuple(lines)


def lazy_output(program, stream):
    """The OUTPUT in which each LINE of the stream stands behind all others before which it is not surely."""
    out = []
    held = []
    for word, name in program.deeds:
        if word == FLUSH and name == stream:
            out.extend(held)
            held = []
        elif word == WRITE:
            line = program.lines[len(out) + len(held)]
            if name == stream:
                held.append(line)
            else:
                out.append(line)
    return tuple(out + held)
