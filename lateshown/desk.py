"""A desk: requests to a board, one in a line, and their answers."""

from lateshown.board import Board
from lateshown.errors import BadLine, BadText, NoFrame, NoLine, NoPlan, NoStream, OtherWrites, Outside
from lateshown.programs import Program
from lateshown.texts import frame_in, line_in, line_text, name_in, writes_in

DONE = "done"
# Of what kind the words behind the first one are, where each word is for itself.
KINDS = {
    "write": ("name",), "leave": ("name",), "lift": ("name",), "add": ("name", "name"), "writes": (),
    "sure": ("name", "line", "line"), "surely": ("line", "line"), "above": ("name",), "doubled": (), "undo": (),
}


def words_in(words, kinds):
    """The list of what the words tell, being of these kinds; raises BadText()."""
    if len(words) != len(kinds):
        raise BadText()
    return [line_in(word) if kind == "line" else name_in(word) for word, kind in zip(words, kinds)]


def request_in(text):
    """The pair of the word of the request and of the list of what it is about; raises BadText()."""
    word, blank, rest = text.partition(" ")
    if word == "frame":
        return word, list(frame_in(rest))
    if word in ("plan", "effect"):
        name, _, told = rest.partition(" ")
        return word, [name_in(name), Program.of(told)]
    if word not in KINDS:
        raise BadText()
    return word, words_in(rest.split(" ") if blank else [], KINDS[word])


def yes_or_no(holds):
    """The answer that tells whether it is so."""
    return "yes" if holds else "no"


def told_names(names):
    """The answer that tells these NAMEs."""
    return " ".join(names) if names else "-"


def write_line(board, stream):
    """The answer to write."""
    return line_text(board.write(stream))


def set_plan(board, name, program):
    """The answer to plan."""
    board[name] = program
    return DONE


def leave_board(board, name):
    """The answer to leave."""
    board.leave(name)
    return DONE


def lift_frame(board, name):
    """The answer to lift."""
    board.lift(name)
    return DONE


def add_flush(board, name, stream):
    """The answer to add."""
    board += (name, stream)
    return DONE


def set_frame(board, name, low, high):
    """The answer to frame."""
    board.frame(name, low, high)
    return DONE


def tell_writes(board):
    """The answer to writes."""
    return told_names(board.writes)


def tell_sure(board, name, one, other):
    """The answer to sure."""
    return yes_or_no(board.sure(name, one, other))


def tell_surely(board, one, other):
    """The answer to surely."""
    return told_names(board.sure_for(one, other))


def tell_above(board, name):
    """The answer to above."""
    return told_names(board.above(name))


def tell_doubled(board):
    """The answer to doubled."""
    return told_names(board.doubled())


def tell_effect(board, name, program):
    """The answer to effect."""
    return board.effect(name, program)


def take_back(board):
    """The answer to undo."""
    return yes_or_no(board.undo())


ACTIONS = {
    "write": write_line, "plan": set_plan, "leave": leave_board, "lift": lift_frame, "add": add_flush,
    "frame": set_frame, "writes": tell_writes, "sure": tell_sure, "surely": tell_surely, "above": tell_above,
    "doubled": tell_doubled, "effect": tell_effect, "undo": take_back,
}


def answer(board, word, given):
    """The answer to the request, which is done."""
    action = ACTIONS[word]
    try:
        return action(board, *given)
    except NoPlan:
        return "refused NoPlan"
    except NoLine:
        return "refused NoLine"
    except NoStream:
        return "refused NoStream"
    except NoFrame:
        return "refused NoFrame"
    except OtherWrites:
        return "refused OtherWrites"
    except Outside:
        return "refused Outside"


def requests_in(lines):
    """The list of what request_in tells of the lines behind the first one; raises BadLine(number)."""
    requests = []
    for number in range(1, len(lines)):
        try:
            requests.append(request_in(lines[number]))
        except BadText:
            raise BadLine(number) from None
    return requests


def answers(text):
    """The answers to the requests of the text, one in a line; raises BadLine(number)."""
    if text == "":
        return []
    lines = text.split("\n")
    try:
        board = Board(writes_in(lines[0]))
    except BadText:
        raise BadLine(0) from None
    told = [DONE]
    for word, given in requests_in(lines):
        told.append(answer(board, word, given))
    return told
