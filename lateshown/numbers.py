"""Numbers of tables: the TABLEs of told WRITES counted, numbered and averaged, none of them listed.

Here marks stand in a ladder: by their streams, ascending, and those of one stream by their moments. Whether a mark
can be in or out hangs on its neighbours in the ladder alone.
"""

from math import comb

from lateshown.errors import NoNumber
from lateshown.order import all_marks, alone_in, check_writes, is_idle, lean_with, marks, tops
from lateshown.plain import fraction, tupled

# How a mark stands to the one ahead of it in the ladder: FREE if that is one of another stream.
FREE = 0
ABOVE = 1
BELOW = 2
# How a mark is chosen: not in; in, and not below one ahead of it that is in; in, and below that one.
OUT = 0
TOP = 1
UNDER = 2


def ladder(writes):
    """The list of the pairs (sign, mark) of all marks, the sign telling how it stands to the one ahead of it."""
    rungs = []
    last = None
    for stream, moment in sorted([(stream, moment) for moment, stream in all_marks(writes)]):
        sign = FREE
        if stream == last:
            sign = ABOVE if writes[moment - 1] == stream else BELOW
        rungs.append((sign, (moment, stream)))
        last = stream
    return rungs


def fits(sign, ahead, inside):
    """Whether a mark may be so, in or out, while the one ahead of it is in or out."""
    if sign == ABOVE:
        return ahead or not inside
    if sign == BELOW:
        return inside or not ahead
    return True


def choices(rungs, least, most):
    """Of each rung, by whether the mark ahead is in: in how many ways all from there on go on without it, and with it.

    The marks of least are always in, and none but those of most.
    """
    rows = []
    ways = {False: 1, True: 1}
    for sign, mark in rungs[::-1]:
        row = {}
        for ahead in (False, True):
            without = ways[False] if mark not in least and fits(sign, ahead, False) else 0
            having = ways[True] if mark in most and fits(sign, ahead, True) else 0
            row[ahead] = (without, having)
        rows.append(row)
        ways = {inside: sum(pair) for inside, pair in row.items()}
    return rows[::-1]


def how_many_in(rows):
    """How many ways there are in all by these choices."""
    return sum(rows[0][False]) if rows else 1


def how_many_from(writes, least, most):
    """How many TABLEs of the WRITES have all marks of least, and none but those of most."""
    return how_many_in(choices(ladder(writes), least, most))


def nth_from(writes, least, most, number):
    """The lean Program of the one of these with this number; raises NoNumber(number)."""
    rungs = ladder(writes)
    rows = choices(rungs, least, most)
    if not 0 <= number < how_many_in(rows):
        raise NoNumber(number)
    owned = []
    left = number
    inside = False
    for (_, mark), row in zip(rungs, rows):
        without, _ = row[inside]
        # Those that lack the mark come first.
        inside = left >= without
        if inside:
            left -= without
            owned.append(mark)
    return lean_with(writes, owned)


def how_many_tables(writes):
    """How many TABLEs the WRITES have."""
    return how_many_from(writes, (), all_marks(writes))


def nth_table(writes, number):
    """The lean Program whose TABLE has this number; raises NoNumber(number)."""
    return nth_from(writes, (), all_marks(writes), number)


def table_number(program):
    """The number of the TABLE of the Program."""
    writes, owned = program.writes, marks(program)
    rungs = ladder(writes)
    number = 0
    inside = False
    for (_, mark), row in zip(rungs, choices(rungs, (), all_marks(writes))):
        without, _ = row[inside]
        inside = mark in owned
        if inside:
            number += without
    return number


def how_many_surer(program):
    """How many TABLEs of its WRITES have all marks of the Program."""
    return how_many_from(program.writes, marks(program), all_marks(program.writes))


def how_many_looser(program):
    """How many TABLEs of its WRITES have no other marks than the Program."""
    return how_many_from(program.writes, (), marks(program))


def how_many_between(one, other):
    """How many TABLEs have all marks of one, and no other marks than other; raises OtherWrites()."""
    check_writes((one, other))
    return how_many_from(one.writes, marks(one), marks(other))


def nth_between(one, other, number):
    """The lean Program of the one of these with this number; raises OtherWrites(), NoNumber(number)."""
    check_writes((one, other))
    return nth_from(one.writes, marks(one), marks(other), number)


def standing_now(sign, last, inside):
    """OUT, TOP or UNDER of a mark that is in or not, the one ahead of it being this."""
    if not inside:
        return OUT
    return UNDER if sign == BELOW and last != OUT else TOP


def marks_more(sign, last, now):
    """How many marks more there are with this one."""
    return 0 if now == OUT else 1


def flushes_more(sign, last, now):
    """How many flushes more are needed with this mark: none if it stands above one that needed its own so far."""
    return 1 if now == TOP and not (sign == ABOVE and last == TOP) else 0


def tally(writes, more):
    """The list of how many TABLEs come to no, one .. by adding up more over their marks and those not in."""
    counts = {(OUT, 0): 1}
    for sign, _ in ladder(writes):
        longer = {}
        for (last, number), many in counts.items():
            for inside in (False, True):
                if fits(sign, last != OUT, inside):
                    now = standing_now(sign, last, inside)
                    key = (now, number + more(sign, last, now))
                    longer[key] = longer.get(key, 0) + many
        counts = longer
    sums = [0] * (max([number for _, number in counts]) + 1)
    for (_, number), many in counts.items():
        sums[number] += many
    return sums


def of_ranks(writes):
    """The list of how many TABLEs have no mark, one mark, and so on."""
    return tally(writes, marks_more)


def of_flushes(writes):
    """The list of how many TABLEs need no flush, one flush, and so on."""
    return tally(writes, flushes_more)


def runs_of(rungs, chosen):
    """The list of the runs of chosen marks that are neighbours in the ladder: of each, the list of their signs."""
    runs = []
    going = False
    for sign, mark in rungs:
        if mark in chosen and going and sign != FREE:
            runs[-1].append(sign)
        elif mark in chosen:
            runs.append([FREE])
        going = mark in chosen
    return runs


def orders_of(run):
    """In how many orders the marks of the run can come, each behind those below it."""
    # By how many of the marks so far come ahead of the last one: in how many orders it is so.
    row = [1]
    for sign in run[1:]:
        row = [sum(row[:at] if sign == ABOVE else row[at:]) for at in range(len(row) + 1)]
    return sum(row)


def how_many_ways(one, other):
    """Of how many unlike rows of TABLEs a way from one to other can be; raises OtherWrites()."""
    check_writes((one, other))
    # No mark that goes is above or below one that comes. Those that go come in the reverse order, which are as many.
    unlike = alone_in(one, other) + alone_in(other, one)
    ways = 1
    done = 0
    for run in runs_of(ladder(one.writes), unlike):
        done += len(run)
        ways = ways * comb(done, len(run)) * orders_of(run)
    return ways


def how_many_alike(program):
    """For how many sets of FLUSHes of its WRITES a Program with these is alike."""
    writes, owned = program.writes, marks(program)
    idle = len(program.streams) * (len(writes) + 1) - len(all_marks(writes))
    # Each set has all tops; the idle ones and the marks below the tops are free.
    return 1 << (idle + len(owned) - len(tops(writes, owned)))


def share_with(writes, flush):
    """The share of the TABLEs of the WRITES that have this mark, a FRACTION."""
    if is_idle(writes, flush):
        return (0, 1)
    return fraction(how_many_from(writes, (tupled(flush),), all_marks(writes)), how_many_tables(writes))


def mean_rank(writes):
    """The mean of the numbers of marks of all TABLEs, a FRACTION."""
    many = of_ranks(writes)
    return fraction(sum([number * times for number, times in enumerate(many)]), sum(many))
