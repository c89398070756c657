"""Texts of lines and of boards."""

from lateshown.board import board_of
from lateshown.errors import BadLine, BadText, NoPlan, OtherWrites, Outside
from lateshown.plans import empty_state, with_frame, with_plan
from lateshown.programs import Program, is_name

DIGITS = "0123456789"
NO_BOUND = "*"
LAST_LINE = "end"
# Of which kind a line of a board's text is, in the order in which they stand.
PLAN = 0
FRAME = 1
END = 2


def line_text(line):
    """The text of the LINE."""
    stream, number = line
    return f"{stream}{number}"


def line_in(text):
    """The LINE with this text; raises BadText()."""
    stream = text.rstrip(DIGITS)
    digits = text.removeprefix(stream)
    if not is_name(stream) or digits == "" or digits.startswith("0"):
        raise BadText()
    number = 0
    # Digit by digit: a text may have more of them than Python reads at once.
    for digit in digits:
        number = 10 * number + int(digit)
    return stream, number


def name_in(text):
    """The NAME that the text is; raises BadText()."""
    if not is_name(text):
        raise BadText()
    return text


def writes_in(text):
    """The WRITES that a first line tells; raises BadText()."""
    word, *streams = text.split(" ")
    if word != "writes":
        raise BadText()
    return tuple([name_in(stream) for stream in streams])


def bound_in(text):
    """The Program with this text, None for *; raises BadText()."""
    return None if text == NO_BOUND else Program.of(text)


def plan_in_line(text):
    """The NAME and the Program that a line tells; raises BadText()."""
    name, _, told = text.partition(": ")
    return name_in(name), Program.of(told)


def frame_in(text):
    """The NAME and the two bounds of a frame; raises BadText()."""
    name, _, told = text.partition(" from ")
    low, _, high = told.partition(" .. ")
    return name_in(name), bound_in(low), bound_in(high)


def frame_text(frame):
    """The line of the frame, a triple with texts."""
    name, low, high = frame
    return f"{name} from {NO_BOUND if low is None else low} .. {NO_BOUND if high is None else high}"


def board_text(board):
    """The text of the Board."""
    lines = [" ".join(("writes",) + board.writes)]
    lines.extend([f"{name}: {board[name].text}" for name in board.names])
    lines.extend([frame_text(frame) for frame in board.frames])
    return "\n".join(lines + [LAST_LINE])


def step_in(state, place, text):
    """The state and the place behind a line that is not the first one; a place is a pair of kind and NAME.

    Raises BadText(), also if the line cannot stand behind the place, and what the plan or the frame raises.
    """
    if text == LAST_LINE:
        kind, name, given = END, "", ()
    elif ": " in text:
        kind = PLAN
        name, *given = plan_in_line(text)
    else:
        kind = FRAME
        name, *given = frame_in(text)
    # Plans stand ahead of frames, both by their NAMEs, and nothing behind the end.
    if (kind, name) <= place:
        raise BadText()
    if kind == PLAN:
        return with_plan(state, name, *given), (kind, name)
    if kind == FRAME:
        return with_frame(state, name, *given), (kind, name)
    return state, (kind, name)


def board_in(text):
    """The Board with this text; raises BadLine(number)."""
    lines = text.split("\n")
    try:
        state = empty_state(writes_in(lines[0]))
    except BadText:
        raise BadLine(0) from None
    place = (PLAN, "")
    for number in range(1, len(lines)):
        try:
            state, place = step_in(state, place, lines[number])
        except (BadText, NoPlan, OtherWrites, Outside):
            raise BadLine(number) from None
    if place != (END, ""):
        raise BadLine(len(lines))
    return board_of(state)
