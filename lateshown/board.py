"""A board: plans for the same WRITES, that stay within their frames whatever is done."""

from lateshown.errors import NoLine, Stopped
from lateshown.plain import tupled
from lateshown.plans import after, check_plan, empty_state, plan_in, tried
from lateshown.programs import numbered
from lateshown.tables import alike, is_sure, table_of, within


def bound_text(bound):
    """The text of a plan in a frame; None for None."""
    return None if bound is None else bound.text


def same_bounds(one, other):
    """Whether both are None, or show the same outputs."""
    if one is None or other is None:
        return one is None and other is None
    return alike(one, other)


def same_plans(ones, others):
    """Whether the same NAMEs have plans that show the same outputs."""
    return sorted(ones) == sorted(others) and all([alike(ones[name], others[name]) for name in ones])


def same_frames(ones, others):
    """Whether the same NAMEs have frames that are alike."""
    if sorted(ones) != sorted(others):
        return False
    pairs = [pair for name in ones for pair in zip(ones[name], others[name])]
    return all([same_bounds(one, other) for one, other in pairs])


def same_states(one, other):
    """Whether the WRITES are the same, and the plans and the frames show the same outputs."""
    writes, plans, frames = one
    other_writes, other_plans, other_frames = other
    return writes == other_writes and same_plans(plans, other_plans) and same_frames(frames, other_frames)


class Board:
    """WRITES, plans for them by NAMEs, and frames for some of these."""

    def __init__(self, writes=()):
        self._state = empty_state(tupled(writes))
        # The states ahead of each deed that can be taken back.
        self._earlier = []

    @property
    def writes(self):
        """The tuple of the WRITES."""
        writes, _, _ = self._state
        return writes

    @property
    def names(self):
        """The set of the NAMEs of the plans."""
        _, plans, _ = self._state
        return tuple(sorted(plans))

    @property
    def frames(self):
        """The ascending tuple of the triples (name, low, high) of all frames, with texts for plans."""
        _, _, frames = self._state
        return tuple([(name, bound_text(frames[name][0]), bound_text(frames[name][1])) for name in sorted(frames)])

    def __len__(self):
        return len(self.names)

    def __contains__(self, name):
        return name in self.names

    def __getitem__(self, name):
        return plan_in(self._state, name)

    def __iter__(self):
        raise TypeError("a Board is not to be gone through")

    def __eq__(self, other):
        return isinstance(other, Board) and same_states(self._state, other._state)

    def __setitem__(self, name, program):
        self._take(("set", name, program))

    def __iadd__(self, other):
        name, stream = other
        self._take(("add", name, stream))
        return self

    def _take(self, deed):
        """Does the deed, told as for an attempt; raises what it raises."""
        state = after(self._state, deed)
        self._earlier.append(self._state)
        self._state = state

    def write(self, stream):
        """A LINE is written on this stream, in all plans; the LINE; raises Outside(name)."""
        self._take(("write", stream))
        return stream, self.writes.count(stream)

    def leave(self, name):
        """The plan goes, with its frame; raises NoPlan(name)."""
        self._take(("leave", name))

    def frame(self, name, low, high):
        """The plan has this frame; raises NoPlan(name), OtherWrites(), Outside(name)."""
        self._take(("frame", name, low, high))

    def lift(self, name):
        """The frame of the plan goes; raises NoPlan(name), NoFrame(name)."""
        self._take(("lift", name))

    def attempt(self, deeds):
        """All of the deeds or none, as one deed; raises Stopped(number, raised, value)."""
        state = self._state
        for number, deed in enumerate(deeds):
            state, raised, kept = tried(state, deed)
            if raised is not None:
                raise Stopped(number, raised, kept)
        self._earlier.append(self._state)
        self._state = state

    def undo(self):
        """Takes back the last deed that was not taken back; whether there was one."""
        if not self._earlier:
            return False
        self._state = self._earlier.pop()
        return True

    def twin(self):
        """Another Board in the same state, with the same deeds to take back."""
        other = board_of(self._state)
        # States never change, so that both may have the same ones.
        other._earlier = list(self._earlier)
        return other

    def sure(self, name, one, other):
        """Whether one is surely ahead of other in the plan; raises NoPlan(name), NoLine(line)."""
        return is_sure(table_of(self[name]), one, other)

    def sure_for(self, one, other):
        """The set of the NAMEs of the plans for which it is so; raises NoLine(line)."""
        lines = numbered(self.writes)
        for line in (one, other):
            if tupled(line) not in lines:
                raise NoLine(line)
        return tuple([name for name in self.names if self.sure(name, one, other)])

    def above(self, name):
        """The set of the NAMEs of the other plans that are as sure as this one; raises NoPlan(name)."""
        plan = self[name]
        return tuple([own for own in self.names if own != name and within(self[own], plan)])

    def doubled(self):
        """The set of the NAMEs of the plans that are alike to one with a lesser NAME."""
        return tuple([
            name for name in self.names
            if any([own < name and alike(self[own], self[name]) for own in self.names])
        ])

    def effect(self, name, program):
        """How the plan stands to the Program, as a word; raises NoPlan(name), OtherWrites()."""
        plan = self[name]
        check_plan(self._state, program)
        surer, looser = within(plan, program), within(program, plan)
        if surer and looser:
            return "alike"
        if surer:
            return "surer"
        return "looser" if looser else "apart"


def board_of(state):
    """The Board in this state, with no deed to take back."""
    board = Board()
    board._state = state
    return board
