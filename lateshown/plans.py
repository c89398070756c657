"""Plans: what stands on a board, and what each deed makes of it.

A state is a triple: the WRITES, a dict of the plans by their NAMEs, and a dict of the frames, pairs (low, high), by the
NAMEs of their plans. States never change: each deed makes another one, or is refused by an error.
"""

from lateshown.errors import NoFrame, NoPlan, NoStream, OtherWrites, Outside
from lateshown.programs import FLUSH, WRITE
from lateshown.tables import within


def empty_state(writes):
    """The state with these WRITES, without plans."""
    return writes, {}, {}


def plan_in(state, name):
    """The plan with this NAME; raises NoPlan(name)."""
    _, plans, _ = state
    if name not in list(plans):
        raise NoPlan(name)
    return plans[name]


def check_plan(state, program):
    """Raises OtherWrites() if the Program is no plan for the WRITES of the state."""
    writes, _, _ = state
    if program.writes != writes:
        raise OtherWrites()


def is_inside(plan, frame):
    """Whether the plan is within the frame."""
    low, high = frame
    return (low is None or within(plan, low)) and (high is None or within(high, plan))


def framed(state):
    """The state itself; raises Outside(name) for the least NAME of a plan that is not within its frame."""
    _, plans, frames = state
    for name in sorted(frames):
        if not is_inside(plans[name], frames[name]):
            raise Outside(name)
    return state


def without(entries, name):
    """The dict without this NAME."""
    return {own: entries[own] for own in entries if own != name}


def with_line(state, stream):
    """The state with one LINE more on this stream, in all plans; raises Outside(name)."""
    writes, plans, frames = state
    deed = (WRITE, stream)
    longer = {name: plan >> deed for name, plan in plans.items()}
    wider = {
        name: (None if low is None else low >> deed, None if high is None else high >> deed)
        for name, (low, high) in frames.items()
    }
    return framed((writes + (stream,), longer, wider))


def with_plan(state, name, program):
    """The state in which this is the plan with this NAME; raises OtherWrites(), Outside(name)."""
    check_plan(state, program)
    writes, plans, frames = state
    return framed((writes, {**plans, name: program}, frames))


def without_plan(state, name):
    """The state without this plan and its frame; raises NoPlan(name)."""
    plan_in(state, name)
    writes, plans, frames = state
    return writes, without(plans, name), without(frames, name)


def with_flush(state, name, stream):
    """The state with a flush of this stream behind this plan; raises NoPlan(name), NoStream(name), Outside(name)."""
    longer = plan_in(state, name) >> (FLUSH, stream)
    writes, plans, frames = state
    if stream not in writes:
        raise NoStream(stream)
    return framed((writes, {**plans, name: longer}, frames))


def with_frame(state, name, low, high):
    """The state in which the plan has this frame; raises NoPlan(name), OtherWrites(), Outside(name)."""
    plan_in(state, name)
    for bound in (low, high):
        if bound is not None:
            check_plan(state, bound)
    writes, plans, frames = state
    return framed((writes, plans, {**frames, name: (low, high)}))


def without_frame(state, name):
    """The state in which the plan has no frame; raises NoPlan(name), NoFrame(name)."""
    plan_in(state, name)
    writes, plans, frames = state
    if name not in frames:
        raise NoFrame(name)
    return writes, plans, without(frames, name)


DEEDS = {
    "write": with_line, "set": with_plan, "leave": without_plan, "add": with_flush, "frame": with_frame,
    "lift": without_frame,
}


def after(state, deed):
    """The state behind the deed, told as for an attempt; raises what the deed raises."""
    word, *given = deed
    step = DEEDS[word]
    return step(state, *given)


def tried(state, deed):
    """The triple of the state behind the deed, None if it is refused, the name of the error, and what this keeps."""
    try:
        return after(state, deed), None, None
    except NoPlan as no_plan:
        return None, "NoPlan", no_plan.name
    except NoStream as no_stream:
        return None, "NoStream", no_stream.name
    except NoFrame as no_frame:
        return None, "NoFrame", no_frame.name
    except Outside as outside:
        return None, "Outside", outside.name
    except OtherWrites:
        return None, "OtherWrites", None
