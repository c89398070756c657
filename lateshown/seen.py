"""What was seen: the flushes that a Program cannot have whose WRITES are known and whose screen was seen."""

from lateshown.errors import NoRun, NoStream, NothingDone, OtherWrites
from lateshown.numbers import how_many_looser
from lateshown.order import all_marks, is_idle, with_marks
from lateshown.outputs import broken_at, lazy_output
from lateshown.plain import tupled
from lateshown.programs import is_line, numbered


def is_run(writes, thing):
    """Whether thing is a RUN of the WRITES."""
    if not isinstance(thing, tuple) or not all([is_line(part) for part in thing]):
        return False
    if thing != numbered([stream for stream, _ in thing]):
        return False
    lines = numbered(writes)
    return all([line in lines for line in thing])


def witness(writes, run, flush):
    """The first LINE that shows that the RUN refutes the FLUSH, and the least one lacking; None if it does not."""
    moment, stream = flush
    lines = numbered(writes)
    held = [line for line in lines[:moment] if line[0] == stream]
    late = lines[moment:]
    out = 0
    for line in tupled(run):
        if out < len(held) and line in late:
            return line, held[out]
        if line[0] == stream:
            out += 1
    return None


def refutes(writes, run, flush):
    """Whether the RUN refutes the FLUSH."""
    return witness(writes, run, flush) is not None


def refuted_by(writes, run):
    """The set of all FLUSHes of the WRITES that the RUN refutes."""
    flushes = [(moment, stream) for moment in range(len(writes) + 1) for stream in sorted(set(writes))]
    return tuple([flush for flush in flushes if refutes(writes, run, flush)])


def trial(writes, flush):
    """An OUTPUT that refutes the FLUSH; None if there is none."""
    if is_idle(writes, flush):
        return None
    _, stream = flush
    lines = numbered(writes)
    return tuple([line for line in lines if line[0] != stream] + [line for line in lines if line[0] == stream])


def is_trial(writes, flush, thing):
    """Whether thing is an OUTPUT that refutes the FLUSH."""
    return is_run(writes, thing) and len(thing) == len(writes) and refutes(writes, thing, flush)


class Seen:
    """The RUNs that were seen of a Program with these WRITES."""

    def __init__(self, writes):
        self._writes = tupled(writes)
        self._runs = []
        # Of each RUN, the FLUSHes that it refutes.
        self._barred = []

    @property
    def writes(self):
        """The WRITES of the Program."""
        return self._writes

    @property
    def runs(self):
        """The tuple of the RUNs that were told, in this order."""
        return tuple(self._runs)

    def __len__(self):
        return len(self._runs)

    def __contains__(self, run):
        asked = tupled(run)
        # True is equal to 1, so that the RUNs alone would not refuse it.
        return is_run(self._writes, asked) and asked in self._runs

    def __eq__(self, other):
        return isinstance(other, Seen) and self._writes == other._writes and self._runs == other._runs

    def tell(self, run):
        """Takes the RUN as seen; the set of the FLUSHes that it is the first to refute; raises NoRun()."""
        told = tupled(run)
        if not is_run(self._writes, told):
            raise NoRun()
        known = self.refuted()
        found = refuted_by(self._writes, told)
        self._runs.append(told)
        self._barred.append(found)
        return tuple([flush for flush in found if flush not in known])

    def back(self):
        """The last RUN that was told was not told; raises NothingDone()."""
        if not self._runs:
            raise NothingDone()
        self._runs.pop()
        self._barred.pop()

    def twin(self):
        """A Seen equal to this one that shares nothing with it."""
        other = Seen(self._writes)
        other._runs = list(self._runs)
        other._barred = list(self._barred)
        return other

    def refuted(self):
        """The set of the FLUSHes that some RUN told refutes."""
        return tuple(sorted({flush for found in self._barred for flush in found}))

    def left(self):
        """The set of the FLUSHes that no RUN told refutes, without the idle ones."""
        known = self.refuted()
        return tuple([flush for flush in all_marks(self._writes) if flush not in known])

    def fits(self, program):
        """Whether the Program can show all RUNs told; raises OtherWrites()."""
        return self.why_not(program) is None

    def why_not(self, program):
        """The first RUN that it cannot show, its first LINE ahead of which one lacks, and the least such; None if so.

        Raises OtherWrites().
        """
        if program.writes != self._writes:
            raise OtherWrites()
        for place, run in enumerate(self._runs):
            broken = broken_at(program, run)
            if broken is not None:
                at, lacking = broken
                return place, run[at], lacking
        return None

    def surest(self):
        """The lean Program that fits and is as sure as each one that fits."""
        return with_marks(self._writes, self.left())

    def how_many(self):
        """How many tables the Programs that fit have."""
        return how_many_looser(self.surest())


def lazy_run(program, stream):
    """The OUTPUT in which the stream alone lets out its LINEs as late as can be; raises NoStream(name)."""
    if stream not in program.streams:
        raise NoStream(stream)
    return lazy_output(program, stream)


def read_runs(writes, runs):
    """The lean Program with these WRITES whose lazy runs these are, by its streams; None if there is none."""
    wanted = list(tupled(runs))
    if not all([is_run(writes, run) for run in wanted]):
        return None
    seen = Seen(writes)
    for run in wanted:
        seen.tell(run)
    # The lazy run of a stream refutes each mark of this stream that the Program lacks, and none that it has.
    program = seen.surest()
    return program if [lazy_run(program, stream) for stream in program.streams] == wanted else None
