"""Stopped programs: what the screen can show when a Program is stopped ahead of its end."""

from lateshown.errors import NoLine, NoNumber, NoRun
from lateshown.outputs import broken_at, how_many_sets_seen, is_start
from lateshown.plain import tupled
from lateshown.programs import Program, check_place, out_by, written_at
from lateshown.states import chains_of, layers_from, next_steps, start_of
from lateshown.tables import surely_before, told_in


def can_show(program, thing):
    """Whether thing is a RUN that the Program can show."""
    return is_start(program, thing)


def lacking(program, run):
    """The first LINE of the RUN ahead of which a sure one lacks, and the least such; None if it can be shown."""
    broken = broken_at(program, run)
    if broken is None:
        return None
    place, line = broken
    return tupled(run)[place], line


def check_lines(program, lines):
    """Raises NoLine(line) for the first of these that is no LINE of the Program."""
    for line in lines:
        if line not in program:
            raise NoLine(line)


def shown_with(program, lines):
    """The set of the LINEs in each RUN that can be shown and has all of these; raises NoLine(line)."""
    check_lines(program, lines)
    told = told_in(program)
    wanted = tupled(lines)
    return tuple([
        line for line in told if line in wanted or any([surely_before(told, line, own) for own in wanted])
    ])


def seen_without(program, one, other):
    """Whether a RUN can be shown that has one and has not other; raises NoLine(line)."""
    check_lines(program, (one, other))
    return tupled(other) not in shown_with(program, (one,))


def check_run(program, run):
    """Raises NoRun() if the Program cannot show the RUN."""
    if not can_show(program, tupled(run)):
        raise NoRun()


def lost_with(program, run):
    """The set of the LINEs that surely have been written, but do not stand in the RUN shown; raises NoRun()."""
    first, _ = stops_of(program, run)
    shown = tupled(run)
    return tuple(sorted([
        line for line in program.lines if written_at(program, line) < first and line not in shown
    ]))


def surely_at(program, place):
    """The set of the LINEs that surely stand on the screen if it is stopped at the place; raises NoPlace(place)."""
    return tuple([(stream, own + 1) for stream, many in out_by(program, place) for own in range(many)])


def stops_of(program, run):
    """The least and the greatest place at which it can be stopped and show the RUN; raises NoRun()."""
    check_run(program, run)
    shown = tupled(run)
    first = max([written_at(program, line) + 1 for line in shown], default=0)
    # Up to there no flush has let out more.
    last = max([
        place for place in range(len(program) + 1) if all([line in shown for line in surely_at(program, place)])
    ])
    return first, last


def can_show_at(program, place, thing):
    """Whether thing is a RUN that can be shown if the Program is stopped at the place; raises NoPlace(place)."""
    check_place(place, len(program))
    if not can_show(program, thing):
        return False
    first, last = stops_of(program, thing)
    return first <= place <= last


def how_many_sets(program):
    """How many sets of LINEs there are of which RUNs are that can be shown."""
    # Each beginning of an OUTPUT is such a RUN.
    return how_many_sets_seen(program)


def how_many_runs(program):
    """How many RUNs the Program can show."""
    chains = chains_of(program)
    return sum([sum(list(layer.values())) for layer in layers_from(chains, start_of(chains))])


def how_many_runs_at(program, place):
    """How many RUNs it can show if it is stopped at the place; raises NoPlace(place)."""
    out = dict(out_by(program, place))
    chains = chains_of(Program(program.deeds[:place]))
    least = [out.get(stream, 0) for stream, _ in chains]
    return sum([
        many
        for layer in layers_from(chains, start_of(chains)) for state, many in layer.items()
        if all([need <= have for need, have in zip(least, state)])
    ])


def runs_on(chains):
    """Of each state, how many RUNs there are that go on behind it, that which ends there among them."""
    many = {}
    for layer in layers_from(chains, start_of(chains))[::-1]:
        for state in layer:
            many[state] = 1 + sum([many[after] for _, after in next_steps(chains, state)])
    return many


def nth_run(program, number):
    """The RUN with this number of those that can be shown, ascending from 0; raises NoNumber(number)."""
    chains = chains_of(program)
    state = start_of(chains)
    many = runs_on(chains)
    if not 0 <= number < many[state]:
        raise NoNumber(number)
    lines = []
    left = number
    while left > 0:
        # The RUN that ends here comes first.
        left -= 1
        for line, after in next_steps(chains, state):
            if left < many[after]:
                lines.append(line)
                state = after
                break
            left -= many[after]
    return tuple(lines)


def number_of_run(program, run):
    """The number of the RUN; None if the Program cannot show it."""
    wanted = tupled(run)
    if not can_show(program, wanted):
        return None
    chains = chains_of(program)
    state = start_of(chains)
    many = runs_on(chains)
    number = 0
    for line in wanted:
        steps = next_steps(chains, state)
        number += 1 + sum([many[after] for own, after in steps if own < line])
        state = [after for own, after in steps if own == line][0]
    return number
