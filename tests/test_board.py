"""The board [15]: edges, wrong inputs, and the general rules."""

import unittest

from asking import check_call, check_raises, listed
from lateshown.board import Board
from lateshown.errors import NoFrame, NoLine, NoPlan, NoStream, OtherWrites, Outside, Stopped
from lateshown.programs import Program, numbered
from lateshown.seen import Seen

CALM, KEEN = Program.of("a b"), Program.of("a !a b")


def made(writes="ab", frames=(), **plans):
    """A Board with these plans and frames, told by texts."""
    board = Board(tuple(writes))
    for name, text in plans.items():
        board[name] = Program.of(text)
    for name, low, high in frames:
        board.frame(name, bound(low), bound(high))
    return board


def bound(text):
    return None if text is None else Program.of(text)


def add(board, name, stream):
    board += (name, stream)


def put(board, name, program):
    board[name] = program


def state(board):
    """All that can be asked of a Board."""
    return board.writes, board.frames, [(name, board[name].deeds) for name in board.names]


class Empty(unittest.TestCase):
    def test_boards_without_writes_and_without_plans(self):
        for board in (Board(), Board(()), Board([])):
            self.assertEqual((board.writes, board.names, board.frames, len(board)), ((), (), (), 0))
            self.assertIs("a" in board, False)
            self.assertEqual(board.doubled(), ())
            self.assertIs(board.undo(), False)
        self.assertEqual(Board(("a", "b")).sure_for(("a", 1), ("b", 1)), ())
        self.assertEqual(Board(writes=["a", "b"]).writes, ("a", "b"))

    def test_plans_for_no_writes(self):
        board = made("", x="-", y="!a !b")
        self.assertEqual((board.names, board.above("x"), board.doubled()), (("x", "y"), ("y",), ("y",)))
        self.assertEqual(board.effect("x", Program.of("!q")), "alike")
        board.frame("x", Program(), Program.of("!z"))
        self.assertEqual(board.frames, (("x", "-", "!z"),))
        check_raises(self, NoStream("a"), add, board, "x", "a")
        self.assertEqual(board.write("a"), ("a", 1))
        self.assertEqual((board["x"].text, board["y"].text, board.frames), ("a", "!a !b a", (("x", "a", "!z a"),)))

    def test_nothing_to_take_back(self):
        board = made(x="a b")
        self.assertIs(board.undo(), True)
        self.assertIs(board.undo(), False)
        self.assertIs(board.undo(), False)
        self.assertEqual(len(board), 0)


class Asked(unittest.TestCase):
    def test_names_and_plans(self):
        board = made(y="a !a b", x="a b", z="!z a b")
        self.assertEqual((board.names, len(board)), (("x", "y", "z"), 3))
        self.assertEqual((board["z"].text, board["y"]), ("!z a b", KEEN))
        self.assertIs("x" in board, True)
        for thing in ("w", "", None, 1, ("x",), Program(), ["x"]):
            self.assertIs(thing in board, False)
        check_raises(self, NoPlan("w"), lambda: board["w"])

    def test_a_board_is_not_to_be_gone_through(self):
        board = made(x="a b")
        for ask in (iter, list, lambda own: [name for name in own], sorted, tuple):
            with self.assertRaises(TypeError):
                ask(board)

    def test_properties_have_no_setters(self):
        board = made(x="a b")
        for name in ("writes", "names", "frames"):
            with self.assertRaises(AttributeError):
                setattr(board, name, ())

    def test_sure(self):
        board = made(x="a b", y="a !a b")
        self.assertIs(board.sure("y", ("a", 1), ("b", 1)), True)
        self.assertIs(board.sure("x", ("a", 1), ("b", 1)), False)
        self.assertIs(board.sure("y", ("b", 1), ("a", 1)), False)
        self.assertIs(board.sure("y", ("a", 1), ("a", 1)), False)
        board.write("a")
        self.assertEqual(board.sure_for(("a", 1), ("a", 2)), ("x", "y"))
        self.assertEqual(board.sure_for(("a", 2), ("a", 1)), ())
        self.assertEqual(board.sure_for(("a", 1), ("b", 1)), ("y",))

    def test_above_and_doubled(self):
        board = made("abab", w="a b a b", x="a !a b a b", y="a !a b a !a b", z="a !a b !b a b", v="!b a !a !a b a b")
        self.assertEqual(board.above("w"), ("v", "x", "y", "z"))
        self.assertEqual((board.above("x"), board.above("v")), (("v", "y", "z"), ("x", "y", "z")))
        self.assertEqual((board.above("y"), board.above("z")), ((), ()))
        self.assertEqual(board.doubled(), ("x",))
        board["u"] = board["x"]
        self.assertEqual(board.doubled(), ("v", "x"))

    def test_effect(self):
        board = made("abab", x="a !a b a b")
        for text, word in (("!b a !a b !a a b", "alike"), ("a b a b", "surer"), ("a !a b a !a b", "looser"),
                           ("a b !b a b", "apart")):
            self.assertEqual(board.effect("x", Program.of(text)), word)
        for text in ("a b a", "b a b a", "-", "a b a b a"):
            check_raises(self, OtherWrites(), board.effect, "x", Program.of(text))
            check_raises(self, NoPlan("z"), board.effect, "z", Program.of(text))

    def test_equal(self):
        one = made("ab", [("x", "a b", None)], x="a !a b", y="a b")
        self.assertTrue(one == made("ab", [("x", "!b a b !a", None)], y="!a a b", x="a !b !a !a b"))
        for other in (made("ab", [("x", "a !a b", None)], x="a !a b", y="a b"),
                      made("ab", [("x", None, None)], x="a !a b", y="a b"),
                      made("ab", x="a !a b", y="a b"), made("ab", [("x", "a b", "a !a b")], x="a !a b", y="a b"),
                      made("ab", [("y", "a b", None)], x="a !a b", y="a b"),
                      made("ab", [("x", "a b", None)], x="a !a b"),
                      made("ab", [("x", "a b", None)], x="a b", y="a b"),
                      made("ab", [("x", "a b", None)], x="a !a b", z="a b"),
                      made("ba", y="b a"), Board(("a", "b"))):
            self.assertFalse(one == other)
            self.assertFalse(other == one)
        self.assertTrue(Board() == Board([]))
        self.assertFalse(Board(("a", "b")) == Board(("b", "a")))
        self.assertFalse(Board() == Board(("a",)))
        # What can be taken back is not compared.
        self.assertTrue(one == one.twin())
        longer = made("ab", [("x", "a b", None)], x="a !a b", y="a b")
        longer.attempt(())
        self.assertTrue(one == longer)
        for thing in (None, (), 0, "", Program(), Seen(()), object()):
            self.assertIs(Board() == thing, False)


class Deeds(unittest.TestCase):
    def test_each_one_is_taken_back(self):
        board = made("ab", [("x", "a b", None)], x="a !a b", y="a b")
        for deed in (lambda: board.write("c"), lambda: put(board, "y", KEEN), lambda: put(board, "z", KEEN),
                     lambda: board.leave("x"),
                     lambda: add(board, "y", "b"), lambda: board.frame("y", None, None), lambda: board.lift("x"),
                     lambda: board.attempt((("write", "a"), ("leave", "x"), ("write", "b"))), lambda: board.attempt(()),
                     lambda: put(board, "y", CALM), lambda: board.frame("x", CALM, None)):
            before, twin = state(board), board.twin()
            deed()
            self.assertIs(board.undo(), True)
            self.assertEqual(state(board), before)
            self.assertTrue(board == twin)

    def test_what_they_return(self):
        board = Board(("a",))
        self.assertEqual((board.write("b"), board.write("b"), board.write("a")), (("b", 1), ("b", 2), ("a", 2)))
        board["x"] = Program.of("a b b a")
        for answer in (board.frame("x", None, None), board.lift("x"), board.attempt(())):
            self.assertIsNone(answer)
        same = board
        same += ("x", "a")
        self.assertIs(same, board)
        self.assertEqual(board["x"].text, "a b b a !a")
        self.assertIsNone(board.leave("x"))

    def test_what_changes_nothing_is_a_deed(self):
        board = Board(("a", "b"))
        board["x"] = CALM
        board["x"] = CALM
        board.attempt(())
        board.frame("x", None, None)
        board.frame("x", None, None)
        self.assertEqual([board.undo() for _ in range(3)], [True] * 3)
        self.assertEqual((board.frames, board.names), ((), ("x",)))
        self.assertEqual([board.undo() for _ in range(3)], [True, True, False])

    def test_what_is_refused_is_not_taken_back(self):
        board = made(x="a b")
        for ask in (lambda: board.leave("q"), lambda: board.lift("x"), lambda: put(board, "x", Program()),
                    lambda: add(board, "x", "z")):
            with self.assertRaises((LookupError, ValueError)):
                ask()
        self.assertIs(board.undo(), True)
        self.assertEqual(len(board), 0)
        self.assertIs(board.undo(), False)

    def test_a_line_is_put_behind_all(self):
        board = made("ab", [("x", "a b", "a !a b !a")], x="a !b !a b !a")
        self.assertEqual(board.write("c"), ("c", 1))
        self.assertEqual(state(board), (("a", "b", "c"), (("x", "a b c", "a !a b !a c"),),
                                        [("x", Program.of("a !b !a b !a c").deeds)]))

    def test_a_frame_in_the_place_of_an_earlier_one(self):
        board = made("ab", [("x", "a !a b", None)], x="a !a b")
        check_raises(self, Outside("x"), put, board, "x", CALM)
        board.frame("x", None, KEEN)
        self.assertEqual(board.frames, (("x", None, "a !a b"),))
        board["x"] = CALM
        board.frame("x", None, None)
        self.assertEqual(board.frames, (("x", None, None),))
        board.frame("x", CALM, KEEN)
        self.assertEqual(board.frames, (("x", "a b", "a !a b"),))
        board.lift("x")
        self.assertEqual(board.frames, ())
        check_raises(self, NoFrame("x"), board.lift, "x")

    def test_a_frame_goes_with_its_plan(self):
        board = made("ab", [("x", "a !a b", None)], x="a !a b", y="a b")
        board.leave("x")
        self.assertEqual((board.frames, board.names), ((), ("y",)))
        board["x"] = CALM
        self.assertEqual(board.frames, ())
        self.assertEqual([board.undo(), board.undo()], [True, True])
        self.assertEqual((board.frames, board.names), ((("x", "a !a b", None),), ("x", "y")))

    def test_a_plan_in_a_frame_stays_there(self):
        board = made("abab", [("x", "a !a b a b", "a !a b a !a b")], x="a !a b a b")
        for text, fits in (("a !a b a !a b", True), ("a b a b", False), ("a !a b !b a b", False),
                           ("!b a !a b !a a !a b !b", True)):
            if fits:
                board["x"] = Program.of(text)
                self.assertEqual((board["x"].text, board.frames), (text, (("x", "a !a b a b", "a !a b a !a b"),)))
            else:
                before = state(board)
                check_raises(self, Outside("x"), put, board, "x", Program.of(text))
                self.assertEqual(state(board), before)

    def test_outside_by_a_line_names_the_least(self):
        board = made("ab", x="a b", y="a b", w="a b", v="a b")
        for name in "yxw":
            board.frame(name, None, CALM)
        add(board, "y", "a")
        add(board, "w", "b")
        add(board, "v", "a")
        before = state(board)
        check_raises(self, Outside("y"), board.write, "b")
        check_raises(self, Outside("w"), board.write, "a")
        check_raises(self, Outside("w"), board.write, "c")
        self.assertEqual(state(board), before)
        board.lift("w")
        self.assertEqual(board.write("a"), ("a", 2))

    def test_a_frame_can_go_outside_by_its_own_flushes(self):
        # The bound below becomes surer than the plan with the next line of another stream.
        board = made("ab", [("x", "a b !a", None)], x="a b")
        check_raises(self, Outside("x"), board.write, "b")
        self.assertEqual(board.write("a"), ("a", 2))

    def test_errors_and_their_order(self):
        board = made("ab", [("x", "a !a b", None)], x="a !a b", y="a b")
        other = Program.of("b a")
        for wanted, ask, given in (
            (NoPlan("z"), board.sure, ("z", ("q", 1), ("q", 2))),
            (NoLine(("q", 1)), board.sure, ("x", ("q", 1), ("r", 2))),
            (NoLine(("a", 2)), board.sure, ("x", ("a", 1), ("a", 2))),
            (NoLine(("a", 0)), board.sure, ("x", ("a", 0), ("a", 2))),
            (NoLine(("q", 1)), board.sure_for, (("q", 1), ("r", 1))),
            (NoLine(("b", -1)), board.sure_for, (("a", 1), ("b", -1))),
            (NoPlan("z"), board.above, ("z",)), (NoPlan("z"), board.effect, ("z", other)),
            (OtherWrites(), board.effect, ("x", other)),
            (OtherWrites(), board.__setitem__, ("x", other)), (OtherWrites(), board.__setitem__, ("new", other)),
            (Outside("x"), board.__setitem__, ("x", CALM)), (NoPlan("z"), board.leave, ("z",)),
            (NoPlan("z"), board.__iadd__, (("z", "q"),)), (NoStream("q"), board.__iadd__, (("x", "q"),)),
            (NoPlan("z"), board.frame, ("z", other, other)), (OtherWrites(), board.frame, ("y", KEEN, other)),
            (OtherWrites(), board.frame, ("y", other, KEEN)), (Outside("y"), board.frame, ("y", KEEN, None)),
            (Outside("x"), board.frame, ("x", None, CALM)), (NoPlan("z"), board.lift, ("z",)),
            (NoFrame("y"), board.lift, ("y",)),
        ):
            before = state(board)
            check_raises(self, wanted, ask, *given)
            self.assertEqual(state(board), before)

    def test_lines_can_be_asked_for_without_plans(self):
        check_raises(self, NoLine(("a", 2)), Board(("a", "b")).sure_for, ("a", 2), ("b", 1))
        check_raises(self, NoLine(("b", 0)), Board(("a", "b")).sure_for, ("a", 1), ("b", 0))


class Attempts(unittest.TestCase):
    def test_all_of_them(self):
        board = made(x="a b")
        board.attempt((("write", "b"), ("set", "y", Program.of("a b b")), ("add", "y", "a"), ("frame", "x", None, None),
                       ("frame", "y", None, None), ("lift", "x"), ("write", "b"), ("leave", "x")))
        self.assertEqual(state(board), (("a", "b", "b", "b"), (("y", None, None),),
                                        [("y", Program.of("a b b !a b").deeds)]))
        self.assertIs(board.undo(), True)
        self.assertEqual(state(board), (("a", "b"), (), [("x", CALM.deeds)]))

    def test_or_none(self):
        board = made("ab", [("x", None, "a b")], x="a b", y="a !a b")
        for deed, raised, value in (
            (("leave", "z"), "NoPlan", "z"), (("add", "z", "a"), "NoPlan", "z"), (("add", "x", "q"), "NoStream", "q"),
            (("lift", "y"), "NoFrame", "y"), (("lift", "z"), "NoPlan", "z"),
            (("set", "x", Program()), "OtherWrites", None),
            (("set", "x", Program.of("a !a b c")), "Outside", "x"),
            (("frame", "y", Program(), None), "OtherWrites", None),
            (("frame", "y", None, Program.of("a b c")), "Outside", "y"), (("frame", "z", None, None), "NoPlan", "z"),
        ):
            before = state(board)
            good = (("write", "c"), ("frame", "y", None, None), ("lift", "y"))
            check_raises(self, Stopped(3, raised, value), board.attempt, good + (deed, ("leave", "zz")))
            self.assertEqual(state(board), before)
        check_raises(self, Stopped(1, "Outside", "x"), board.attempt, (("add", "x", "b"), ("write", "a")))
        check_raises(self, Stopped(0, "NoPlan", "q"), board.attempt, (("leave", "q"),))
        self.assertEqual([board.undo() for _ in range(4)], [True, True, True, False])

    def test_one_outside_in_between_stops_it(self):
        board = made("ab", [("x", None, "a b")], x="a b !a")
        check_raises(self, Stopped(0, "Outside", "x"), board.attempt, (("write", "b"), ("lift", "x")))
        board.attempt((("lift", "x"), ("write", "b")))
        self.assertEqual(board.writes, ("a", "b", "b"))

    def test_an_attempt_is_one_deed(self):
        board = made(x="a b")
        board.attempt([["write", "a"], ["write", "b"]])
        board.attempt(())
        self.assertIs(board.undo(), True)
        self.assertEqual(board.writes, ("a", "b", "a", "b"))
        self.assertIs(board.undo(), True)
        self.assertEqual(board.writes, ("a", "b"))


class Twins(unittest.TestCase):
    def test_a_twin_shares_nothing(self):
        board = made("ab", [("x", "a b", None)], x="a !a b")
        twin = board.twin()
        self.assertTrue(twin == board)
        self.assertEqual(state(twin), state(board))
        twin.write("a")
        twin["y"] = Program.of("a b a")
        add(twin, "x", "b")
        twin.lift("x")
        self.assertEqual(state(board), (("a", "b"), (("x", "a b", None),), [("x", KEEN.deeds)]))
        board.leave("x")
        self.assertEqual(twin.names, ("x", "y"))
        self.assertEqual([board.undo() for _ in range(4)], [True, True, True, False])
        self.assertEqual([twin.undo() for _ in range(7)], [True] * 6 + [False])
        self.assertTrue(board == twin)

    def test_a_twin_has_the_same_deeds_to_take_back(self):
        board = made("ab", x="a b", y="a !a b")
        board.write("b")
        board.undo()
        twin = board.twin()
        self.assertEqual([twin.undo() for _ in range(3)], [True, True, False])
        self.assertEqual([board.undo() for _ in range(3)], [True, True, False])


class General(unittest.TestCase):
    def test_what_is_asked_changes_nothing(self):
        board = made("abb", [("x", "a b b", None)], x="a !a b b", y="a b !b b")
        before = state(board)
        for ask, named in (
            (board.sure, {"name": "x", "one": ("a", 1), "other": ("b", 2)}),
            (board.sure_for, {"one": ("a", 1), "other": ("b", 2)}),
            (board.above, {"name": "y"}), (board.doubled, {}),
            (board.effect, {"name": "x", "program": Program.of("a b b")}),
            (board.twin, {}),
        ):
            check_call(self, ask, named)
            self.assertEqual(state(board), before)

    def test_names_of_arguments_and_lists(self):
        board = Board(writes=["a", "b"])
        board["x"] = Program([["write", "a"], ["write", "b"]])
        self.assertEqual(board.write(stream="b"), ("b", 2))
        board.frame(name="x", low=None, high=None)
        board.lift(name="x")
        board += ["x", "a"]
        board.attempt(deeds=listed((("write", "a"), ("add", "x", "b"))))
        self.assertEqual(board["x"].text, "a b b !a a !b")
        self.assertIs(board.sure(name="x", one=["a", 1], other=["a", 2]), True)
        self.assertIs(board.sure_for(other=["a", 2], one=["a", 1]) == ("x",), True)
        board.leave(name="x")
        self.assertEqual(state(board), (("a", "b", "b", "a"), (), []))

    def test_arguments_are_copied(self):
        writes, deeds = ["a", "b"], [["leave", "x"]]
        board = Board(writes)
        board["x"] = CALM
        board.attempt(deeds)
        writes.append("c")
        deeds[0][1] = "y"
        self.assertEqual((board.writes, board.names), (("a", "b"), ()))

    def test_great_boards(self):
        board = Board()
        for name in ("one", "two", "three", "four", "five", "six", "seven", "eight"):
            board[name] = Program()
            board.frame(name, None, None)
        for number in range(60):
            board.write("abcde"[number % 5])
            if number % 4 == 3:
                add(board, ("one", "two", "six")[number % 3], "abcde"[number // 12])
        self.assertEqual((len(board), len(board.writes), board.names[0]), (8, 60, "eight"))
        self.assertEqual(board.doubled(), ("five", "four", "seven", "three"))
        self.assertEqual(board.above("three"), tuple(name for name in board.names if name != "three"))
        for one in numbered(board.writes)[::7]:
            for other in numbered(board.writes)[::5]:
                sure = tuple(name for name in board.names if board.sure(name, one, other))
                self.assertEqual(board.sure_for(one, other), sure)
        twin = board.twin()
        many = 0
        while board.undo():
            many += 1
        self.assertEqual((many, len(board), len(twin)), (16 + 60 + 15, 0, 8))


if __name__ == "__main__":
    unittest.main()
