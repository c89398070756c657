"""The order of the tables of told WRITES: the marks of Programs, and what comes of them."""

from lateshown.errors import OtherWrites
from lateshown.outputs import lazy_output
from lateshown.plain import tupled
from lateshown.programs import FLUSH, Program, WRITE


def check_writes(programs):
    """Raises OtherWrites() if the Programs do not all have the same WRITES."""
    if len({program.writes for program in programs}) > 1:
        raise OtherWrites()


def is_idle(writes, flush):
    """Whether no line of the stream of the FLUSH is written ahead of it, or none of another stream behind it."""
    moment, stream = flush
    return stream not in writes[:moment] or all([own == stream for own in writes[moment:]])


def all_marks(writes):
    """The ascending tuple of all marks of the WRITES."""
    flushes = [(moment, stream) for moment in range(len(writes)) for stream in sorted(set(writes))]
    return tuple([flush for flush in flushes if not is_idle(writes, flush)])


def right_below(writes, mark):
    """The list of the marks right below this one."""
    moment, stream = mark
    found = []
    if writes[moment - 1] == stream:
        found.append((moment - 1, stream))
    if writes[moment] != stream:
        found.append((moment + 1, stream))
    return [own for own in found if not is_idle(writes, own)]


def right_above(writes, mark):
    """The list of the marks right above this one."""
    moment, stream = mark
    found = []
    if writes[moment - 1] != stream:
        found.append((moment - 1, stream))
    if writes[moment] == stream:
        found.append((moment + 1, stream))
    return [own for own in found if not is_idle(writes, own)]


def with_below(writes, flushes):
    """The ascending tuple of those FLUSHes that are marks, and of all marks below them."""
    new = [flush for flush in tupled(flushes) if not is_idle(writes, flush)]
    found = {}
    while new:
        mark = new.pop()
        if mark not in found:
            found[mark] = True
            new.extend(right_below(writes, mark))
    return tuple(sorted(found))


def flushes_of(program):
    """The list of the pairs (moment, stream) at which the Program has a flush, those of unwritten streams, too."""
    flushes = []
    moment = 0
    for word, stream in program.deeds:
        if word == WRITE:
            moment = moment + 1
        else:
            flushes.append((moment, stream))
    return flushes


def marks(program):
    """The ascending tuple of the marks that the Program has."""
    return with_below(program.writes, flushes_of(program))


def has_mark(program, flush):
    """Whether the Program has this mark."""
    return tupled(flush) in marks(program)


def tops(writes, owned):
    """The list of those of the marks that stand below no other one of them."""
    return [mark for mark in owned if not any([own in owned for own in right_above(writes, mark)])]


def lean_with(writes, owned):
    """The lean Program with these WRITES and these marks, all below them among them."""
    needed = sorted(tops(writes, owned))
    deeds = []
    for moment, stream in enumerate(writes):
        deeds.extend([(FLUSH, name) for at, name in needed if at == moment])
        deeds.append((WRITE, stream))
    return Program(deeds)


def lean(program):
    """The lean Program with the same WRITES that is alike."""
    return lean_with(program.writes, marks(program))


def with_marks(writes, flushes):
    """The lean Program with these WRITES and, of all that have the FLUSHes that are not idle, the fewest marks."""
    return lean_with(writes, with_below(writes, flushes))


def bare(writes):
    """The lean Program with these WRITES and no mark."""
    return lean_with(writes, ())


def full(writes):
    """The lean Program with these WRITES and all marks."""
    return lean_with(writes, all_marks(writes))


def join(one, other):
    """The lean Program with just the marks that one of both has; raises OtherWrites()."""
    check_writes((one, other))
    return lean_with(one.writes, sorted(set(marks(one)) | set(marks(other))))


def meet(one, other):
    """The lean Program with just the marks that both have; raises OtherWrites()."""
    check_writes((one, other))
    return lean_with(one.writes, sorted(set(marks(one)) & set(marks(other))))


def middle(one, other, third):
    """The lean Program with just the marks that at least two of the three have; raises OtherWrites()."""
    check_writes((one, other, third))
    owned = marks(one) + marks(other) + marks(third)
    return lean_with(one.writes, [mark for mark in all_marks(one.writes) if owned.count(mark) >= 2])


def alone_in(one, other):
    """The ascending list of the marks that one has and other has not."""
    return sorted(set(marks(one)) - set(marks(other)))


def rest(one, other):
    """The lean Program with as few marks as can be whose join with other has all of one; raises OtherWrites()."""
    check_writes((one, other))
    return with_marks(one.writes, alone_in(one, other))


def allowed(one, other):
    """The lean Program with the most marks whose meet with one has none that other lacks; raises OtherWrites()."""
    check_writes((one, other))
    writes = one.writes
    barred = alone_in(one, other)
    return lean_with(writes, [
        mark for mark in all_marks(writes)
        if not any([own in barred for own in with_below(writes, [mark])])
    ])


def standing(one, other):
    """How one stands to other: "alike", "surer", "looser" or "apart"; raises OtherWrites()."""
    check_writes((one, other))
    more, less = alone_in(one, other), alone_in(other, one)
    if more and less:
        return "apart"
    if more:
        return "surer"
    return "looser" if less else "alike"


def above(program):
    """The list of all lean Programs with one mark more, by this mark, ascending."""
    writes, owned = program.writes, marks(program)
    free = [
        mark for mark in all_marks(writes)
        if mark not in owned and all([own in owned for own in right_below(writes, mark)])
    ]
    return [lean_with(writes, owned + (mark,)) for mark in free]


def below(program):
    """The list of all lean Programs with one mark less, by this mark, ascending."""
    writes, owned = program.writes, marks(program)
    return [lean_with(writes, [own for own in owned if own != mark]) for mark in tops(writes, owned)]


def rank(program):
    """How many marks the Program has."""
    return len(marks(program))


def distance(one, other):
    """How many marks just one of both has; raises OtherWrites()."""
    check_writes((one, other))
    return len(alone_in(one, other)) + len(alone_in(other, one))


def by_height(writes, owned):
    """The list of the marks, each behind those of them that stand below it."""
    return sorted(owned, key=lambda mark: len(with_below(writes, [mark])))


def way(one, other):
    """A shortest list of lean Programs from one to other, mark by mark; raises OtherWrites()."""
    check_writes((one, other))
    writes = one.writes
    owned = list(marks(one))
    programs = [lean_with(writes, owned)]
    for mark in by_height(writes, alone_in(one, other))[::-1]:
        owned.remove(mark)
        programs.append(lean_with(writes, owned))
    for mark in by_height(writes, alone_in(other, one)):
        owned.append(mark)
        programs.append(lean_with(writes, owned))
    return programs


def is_way(one, other, programs):
    """Whether the Programs, lean or not, lead so from one to other; raises OtherWrites()."""
    check_writes((one, other, *programs))
    rows = [marks(program) for program in programs]
    if len(rows) != distance(one, other) + 1 or rows[0] != marks(one) or rows[-1] != marks(other):
        return False
    return all([len(set(fewer) ^ set(more)) == 1 for fewer, more in zip(rows, rows[1:])])


def parting_mark(one, other):
    """The least mark that just one of both has; None if there is none; raises OtherWrites()."""
    check_writes((one, other))
    return min(alone_in(one, other) + alone_in(other, one), default=None)


def output_against(program, flush):
    """An OUTPUT that no Program with these WRITES and this mark has; None if it is idle or the Program has it."""
    if is_idle(program.writes, flush) or has_mark(program, flush):
        return None
    return lazy_output(program, flush[1])
