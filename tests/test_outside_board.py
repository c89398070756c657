"""The board [15] and the desk [16], held against a plain list of all earlier states and the OUTPUTs of all habits."""

import random
import unittest
from functools import lru_cache
from itertools import product

import brute
from lateshown import errors
from lateshown.board import Board
from lateshown.desk import answers
from lateshown.programs import Program, numbered
from lateshown.texts import board_in, board_text

NAMES = ("x", "y", "z", "calm")
STREAMS = "abc"


@lru_cache(maxsize=None)
def shown(deeds):
    """All OUTPUTs of the DEEDs."""
    return brute.outputs(deeds)


def as_sure(one, other):
    return shown(one) <= shown(other)


def writes_in(deeds):
    return tuple(stream for word, stream in deeds if word == "write")


class Refused(Exception):
    """What a plain board refuses: the name of the error's class, and what it keeps."""


class Plain:
    """A board that keeps all its states: triples of the writes, the plans and the frames, with DEEDs for Programs."""

    def __init__(self, writes):
        self.states = [(tuple(writes), {}, {})]

    def now(self):
        return self.states[-1]

    def twin(self):
        other = Plain(())
        other.states = list(self.states)
        return other

    def undo(self):
        if len(self.states) > 1:
            self.states.pop()
            return True
        return False

    def take(self, deeds):
        """Several deeds as one; the number of the one that is refused is told with the error."""
        state = self.now()
        for number, deed in enumerate(deeds):
            try:
                state = getattr(self, "do_" + deed[0])(state, *deed[1:])
                self.check_frames(state)
            except Refused as refused:
                raise Refused(*refused.args, number) from None
        self.states.append(state)

    def check_frames(self, state):
        _, plans, frames = state
        outside = [
            name for name, (low, high) in frames.items()
            if low is not None and not as_sure(plans[name], low) or high is not None and not as_sure(high, plans[name])
        ]
        if outside:
            raise Refused("Outside", min(outside))

    def need(self, state, name):
        if name not in state[1]:
            raise Refused("NoPlan", name)

    def need_writes(self, state, *plans):
        for deeds in plans:
            if deeds is not None and writes_in(deeds) != state[0]:
                raise Refused("OtherWrites", None)

    def do_write(self, state, stream):
        writes, plans, frames = state
        line = (("write", stream),)
        longer = {name: deeds + line for name, deeds in plans.items()}
        return writes + (stream,), longer, {
            name: tuple(None if deeds is None else deeds + line for deeds in pair) for name, pair in frames.items()}

    def do_set(self, state, name, deeds):
        self.need_writes(state, deeds)
        return state[0], {**state[1], name: deeds}, state[2]

    def do_leave(self, state, name):
        self.need(state, name)
        writes, *parts = state
        return (writes, *[{own: part[own] for own in part if own != name} for part in parts])

    def do_add(self, state, name, stream):
        self.need(state, name)
        if stream not in state[0]:
            raise Refused("NoStream", stream)
        return state[0], {**state[1], name: state[1][name] + (("flush", stream),)}, state[2]

    def do_frame(self, state, name, low, high):
        self.need(state, name)
        self.need_writes(state, low, high)
        return state[0], state[1], {**state[2], name: (low, high)}

    def do_lift(self, state, name):
        self.need(state, name)
        if name not in state[2]:
            raise Refused("NoFrame", name)
        return state[0], state[1], {own: pair for own, pair in state[2].items() if own != name}


def drawn_plan(rng, writes):
    """The DEEDs of a plan, mostly for these writes."""
    if rng.random() < 0.1:
        writes = writes[1:] + writes[:1]
    deeds = []
    for stream in writes:
        deeds.append(("write", stream))
        if rng.random() < 0.35:
            deeds.append(("flush", rng.choice(STREAMS)))
    return tuple(deeds)


def drawn_bound(rng, plain, name):
    """A bound of a frame: none, a plan, or the plan itself with fewer or more flushes."""
    writes, plans, _ = plain.now()
    if rng.random() < 0.35:
        return None
    if name not in plans or rng.random() < 0.2:
        return drawn_plan(rng, writes)
    deeds = list(plans[name])
    if rng.random() < 0.5:
        return tuple(deed for deed in deeds if deed[0] == "write" or rng.random() < 0.5)
    deeds.insert(rng.randrange(len(deeds) + 1), ("flush", rng.choice(STREAMS)))
    return tuple(deeds)


def drawn_deed(rng, plain, longest):
    """A deed, that may be refused."""
    word = rng.choice(("write", "set", "set", "leave", "add", "add", "add", "frame", "frame", "lift"))
    name = rng.choice(NAMES)
    if word == "write":
        return (word, rng.choice(STREAMS)) if len(plain.now()[0]) < longest else ("add", name, rng.choice(STREAMS))
    if word == "set":
        return word, name, drawn_plan(rng, plain.now()[0])
    if word == "add":
        return word, name, rng.choice(STREAMS + "q")
    if word == "frame":
        return word, name, drawn_bound(rng, plain, name), drawn_bound(rng, plain, name)
    return word, name


def with_programs(deed):
    """The deed with Programs for DEEDs."""
    if deed[0] in ("set", "frame"):
        return deed[:2] + tuple(None if part is None else Program(part) for part in deed[2:])
    return deed


def do(board, deed):
    """The deed by its own method."""
    word, *given = with_programs(deed)
    if word == "set":
        board[given[0]] = given[1]
    elif word == "add":
        board += tuple(given)
    else:
        return getattr(board, word)(*given)
    return None


class Drawn(unittest.TestCase):
    def test_long_rows_of_deeds(self):
        counts = {}
        for seed in range(60):
            rng = random.Random(seed)
            writes = "".join(rng.choice(STREAMS) for _ in range(rng.randrange(4)))
            plain, board = Plain(writes), Board(tuple(writes))
            for _ in range(70):
                plain, board = self.step(rng, plain, board, counts)
                self.compare(plain, board)
            self.check_sure(plain, board)
            while plain.undo():
                self.assertIs(board.undo(), True)
                self.compare(plain, board)
            self.assertIs(board.undo(), False)
        # Each kind of end came about, often.
        for word in ("done", "NoPlan", "NoStream", "NoFrame", "OtherWrites", "Outside", "Stopped"):
            self.assertGreater(counts.get(word, 0), 10, counts)

    def step(self, rng, plain, board, counts):
        what = rng.random()
        if what < 0.12:
            self.assertIs(board.undo(), plain.undo())
        elif what < 0.2:
            other, mate = plain.twin(), board.twin()
            self.compare(other, mate)
            if rng.random() < 0.5:
                # What is done to the one that is left does nothing to the other one.
                for _ in range(3):
                    self.one(rng, plain, board, counts)
                self.compare(other, mate)
                return other, mate
        elif what < 0.35:
            self.several(rng, plain, board, counts)
        else:
            self.one(rng, plain, board, counts)
        return plain, board

    def one(self, rng, plain, board, counts):
        deed = drawn_deed(rng, plain, 5)
        try:
            plain.take((deed,))
        except Refused as refused:
            raised, value, _ = refused.args
            with self.assertRaises(getattr(errors, raised)) as caught:
                do(board, deed)
            self.assertEqual(list(vars(caught.exception).values()), [] if raised == "OtherWrites" else [value])
        else:
            raised = "done"
            answer = do(board, deed)
            self.assertEqual(answer, numbered(plain.now()[0])[-1] if deed[0] == "write" else None)
        counts[raised] = counts.get(raised, 0) + 1

    def several(self, rng, plain, board, counts):
        deeds, draft = [], plain.twin()
        for _ in range(rng.randrange(4)):
            deeds.append(drawn_deed(rng, draft, 5))
            try:
                draft.take(deeds[-1:])
            except Refused:
                if rng.random() < 0.7:
                    deeds.pop()
        told = tuple(with_programs(deed) for deed in deeds)
        try:
            plain.take(deeds)
        except Refused as refused:
            raised, value, number = refused.args
            with self.assertRaises(errors.Stopped) as caught:
                board.attempt(told)
            self.assertEqual(vars(caught.exception), {"number": number, "raised": raised, "value": value})
            counts["Stopped"] = counts.get("Stopped", 0) + 1
        else:
            self.assertIsNone(board.attempt(told))

    def compare(self, plain, board):
        writes, plans, frames = plain.now()
        self.assertEqual((board.writes, board.names, len(board)), (writes, tuple(sorted(plans)), len(plans)))
        for name in NAMES:
            self.assertIs(name in board, name in plans)
        for name, deeds in plans.items():
            self.assertEqual(board[name].deeds, deeds)
        self.assertEqual(board.frames, tuple(
            (name, *[None if deeds is None else Program(deeds).text for deeds in frames[name]])
            for name in sorted(frames)))
        # All plans are within their frames, whatever was done.
        plain.check_frames(plain.now())

    def check_sure(self, plain, board):
        writes, plans, _ = plain.now()
        outs = {name: shown(deeds) for name, deeds in plans.items()}
        for one, other in product(numbered(writes), repeat=2):
            sure = tuple(sorted(
                name for name, seen in outs.items() if all(out.index(one) < out.index(other) for out in seen)))
            self.assertEqual(board.sure_for(one, other), sure)
            for name in plans:
                self.assertIs(board.sure(name, one, other), name in sure)
        for name, seen in outs.items():
            self.assertEqual(board.above(name), tuple(sorted(own for own in outs if own != name and outs[own] <= seen)))
            for own in outs:
                word = {(True, True): "alike", (True, False): "surer", (False, True): "looser", (False, False): "apart"}
                self.assertEqual(board.effect(name, board[own]), word[seen <= outs[own], outs[own] <= seen])
        self.assertEqual(board.doubled(), tuple(sorted(
            name for name in outs if any(own < name and outs[own] == outs[name] for own in outs))))


class Equal(unittest.TestCase):
    def test_equal_boards_show_the_same(self):
        boards = []
        for seed in range(40):
            rng = random.Random(seed)
            plain, board = Plain("ab"), Board(("a", "b"))
            for deed in [("set", "x", drawn_plan(rng, ("a", "b"))), ("frame", "x", drawn_bound(rng, plain, "y"), None)]:
                try:
                    plain.take((deed,))
                    do(board, deed)
                except Refused:
                    pass
            boards.append((plain.now(), board))
        same = 0
        for (one, ones), (other, others) in product(boards, repeat=2):
            fit = (one[0] == other[0] and self.seen(one[1]) == self.seen(other[1])
                   and self.bounds(one[2]) == self.bounds(other[2]))
            self.assertIs(ones == others, fit)
            same += fit
        self.assertTrue(len(boards) < same < len(boards) ** 2)

    def seen(self, plans):
        return {name: shown(deeds) for name, deeds in plans.items()}

    def bounds(self, frames):
        return {name: [None if deeds is None else shown(deeds) for deeds in pair] for name, pair in frames.items()}


def text_of(deed):
    """The request for the deed."""
    word, *given = with_programs(deed)
    parts = ["*" if part is None else part.text if isinstance(part, Program) else part for part in given]
    if word == "frame":
        return f"frame {parts[0]} from {parts[1]} .. {parts[2]}"
    return " ".join(["plan" if word == "set" else word, *parts])


class Texts(unittest.TestCase):
    def boards(self, many):
        for seed in range(many):
            rng = random.Random(seed)
            writes = "".join(rng.choice(STREAMS) for _ in range(rng.randrange(4)))
            plain, board = Plain(writes), Board(tuple(writes))
            for _ in range(15):
                deed = drawn_deed(rng, plain, 4)
                try:
                    plain.take((deed,))
                    do(board, deed)
                except Refused:
                    pass
            yield rng, plain, board

    def test_boards_to_lines_and_back(self):
        for _, plain, board in self.boards(120):
            text = board_text(board)
            made = board_in(text)
            self.assertTrue(made == board)
            self.assertEqual(board_text(made), text)
            Drawn.compare(self, plain, made)
            self.assertIs(made.undo(), False)

    def test_each_text_bent_in_one_sign(self):
        bent = good = 0
        for rng, _, board in self.boards(40):
            text = board_text(board)
            for _ in range(60):
                place = rng.randrange(len(text) + 1)
                sign = rng.choice("abcxyz !-:*.\n0AE_")
                other = rng.choice((text[:place] + sign + text[place:], text[:place] + sign + text[place + 1:],
                                    text[:place] + text[place + 1:]))
                bent += 1
                try:
                    made = board_in(other)
                except errors.BadLine as wrong:
                    self.assertEqual(wrong.number, self.first_wrong(other), other)
                else:
                    good += 1
                    self.assertIsNone(self.first_wrong(other), other)
                    # Just one text tells a Board, so that what is read comes out again.
                    self.assertEqual(board_text(made), other)
        self.assertTrue(50 < good < bent - 500)

    def first_wrong(self, text):
        """The number of the first line such that no lines behind those up to it make a Board's text."""
        lines = text.split("\n")
        for number in range(len(lines)):
            if not self.can_go_on(lines[:number + 1]):
                return number
        return None if lines[-1] == "end" else len(lines)

    def can_go_on(self, lines):
        """Whether a Board has a text that begins with these lines: told by a Board made by hand."""
        first, *rest = lines
        words = first.split(" ")
        if words[0] != "writes" or not all(self.is_name(word) for word in words[1:]):
            return False
        plain, places = Plain(words[1:]), []
        for line in rest:
            name = line.split(" ")[0].removesuffix(":")
            if "end" in places:
                return False
            if line == "end":
                places.append("end")
                continue
            try:
                if line.startswith(name + ": "):
                    places.append((0, name))
                    plain.take((("set", name, self.deeds(line.removeprefix(name + ": "))),))
                else:
                    places.append((1, name))
                    low, high = line.removeprefix(name + " from ").split(" .. ")
                    if not line.startswith(name + " from "):
                        return False
                    plain.take((("frame", name, self.bound(low), self.bound(high)),))
            except (Refused, ValueError):
                return False
            if not self.is_name(name) or places != sorted(set(places)):
                return False
        return True

    def is_name(self, word):
        return word != "" and len(word) <= 8 and all("a" <= letter <= "z" for letter in word)

    def bound(self, text):
        return None if text == "*" else self.deeds(text)

    def deeds(self, text):
        found = []
        for word in [] if text == "-" else text.split(" "):
            if not self.is_name(word.removeprefix("!")):
                raise ValueError
            found.append(("flush" if word.startswith("!") else "write", word.removeprefix("!")))
        return tuple(found)


class Desk(unittest.TestCase):
    def test_drawn_requests(self):
        words = {}
        for seed in range(80):
            rng = random.Random(seed)
            writes = "".join(rng.choice(STREAMS) for _ in range(rng.randrange(4)))
            plain, board = Plain(writes), Board(tuple(writes))
            requests, wanted = [" ".join(["writes", *writes])], ["done"]
            for _ in range(55):
                request, answer = self.step(rng, plain, board)
                requests.append(request)
                wanted.append(answer)
                words[answer] = words.get(answer, 0) + 1
            self.assertEqual(answers("\n".join(requests)), wanted)
        for word in ("done", "yes", "no", "-", "refused NoPlan", "refused NoLine", "refused NoStream",
                     "refused NoFrame",
                     "refused OtherWrites", "refused Outside", "alike", "surer", "looser", "apart", "x", "a1"):
            self.assertGreater(words.get(word, 0), 0, word)

    def step(self, rng, plain, board):
        """A request, and its answer by what the same does to a Board by hand."""
        what = rng.random()
        if what < 0.1:
            return "undo", "yes" if board.undo() | plain.undo() else "no"
        if what < 0.4:
            return self.question(rng, plain, board)
        deed = drawn_deed(rng, plain, 5)
        try:
            plain.take((deed,))
        except Refused as refused:
            return text_of(deed), "refused " + refused.args[0]
        line = do(board, deed)
        return text_of(deed), f"{line[0]}{line[1]}" if deed[0] == "write" else "done"

    def question(self, rng, plain, board):
        name, other = rng.choice(NAMES), Program(drawn_plan(rng, plain.now()[0]))
        one, two = [(rng.choice(STREAMS), rng.choice((1, 1, 1, 2, 3))) for _ in range(2)]
        lines = f"{one[0]}{one[1]} {two[0]}{two[1]}"
        request, ask = rng.choice((
            ("writes", lambda: board.writes), (f"sure {name} {lines}", lambda: board.sure(name, one, two)),
            (f"surely {lines}", lambda: board.sure_for(one, two)), (f"above {name}", lambda: board.above(name)),
            ("doubled", board.doubled), (f"effect {name} {other.text}", lambda: board.effect(name, other)),
        ))
        try:
            answer = ask()
        except (LookupError, ValueError) as wrong:
            return request, "refused " + type(wrong).__name__
        if isinstance(answer, bool):
            return request, "yes" if answer else "no"
        if isinstance(answer, str):
            return request, answer
        return request, " ".join(answer) if answer else "-"


if __name__ == "__main__":
    unittest.main()
