"""Streams over streams [13]: edges, wrong inputs, great trees, and the general rules."""

import random
import unittest

from asking import check_call, check_raises
from lateshown.errors import NoLeaf, NoLine, NoStream
from lateshown.outputs import is_output
from lateshown.programs import Program
from lateshown.tables import is_table, table_of
from lateshown.trees import (
    alike_in, is_output_in, is_sure_in, is_tree, leaves, meeting, reached_at, table_in, through, way_up,
)

TREE = (("bytes", ""), ("err", ""), ("text", "bytes"), ("utf", "bytes"))
FLAT = (("a", ""), ("b", ""), ("c", ""))
CHAIN = (("a", "b"), ("b", "c"), ("c", "d"), ("d", ""))
SHARED = Program.of("text utf !text utf !bytes err")
# Nine streams in a chain below the screen, and one beside the lowest.
LONG = tuple(sorted([("i" * number, "i" * (number - 1)) for number in range(1, 9)] + [("a", "iiii"), ("z", "")]))


class Trees(unittest.TestCase):
    def test_what_is_a_tree(self):
        for thing in ((), (("a", ""),), TREE, FLAT, CHAIN, LONG, (("a", ""), ("b", "a")), (("a", "b"), ("b", ""))):
            self.assertIs(is_tree(thing), True, thing)
        for thing in ((("a", "b"), ("b", "a")), (("a", "a"),), (("a", "b"),), (("b", ""), ("a", "")), [("a", "")],
                      (["a", ""],), (("a", ""), ("a", "")), (("a", ""), ("a", "b"), ("b", "")), (("A", ""),),
                      (("", ""),),
                      (("a", None),), (("a", 0),), (("a", " "),), (("a", "", ""),), ("a", ""), None, True, 1, "", "ab",
                      Program(), (Program(),), (("a", Program()),), ((1, ""),), (("a", ("b",)), ("b", "")),
                      (("a", "b"), ("b", "c"), ("c", "b"), ("d", "")), (("a", "b"), ("b", "z")), (("abcdefghi", ""),)):
            self.assertIs(is_tree(thing), False, thing)

    def test_at_most_ten_streams(self):
        names = "abcdefghijk"
        self.assertIs(is_tree(tuple((name, "") for name in names[:10])), True)
        self.assertIs(is_tree(tuple((name, "") for name in names)), False)
        chain = tuple(zip(names[:10], list(names[1:10]) + [""]))
        self.assertIs(is_tree(chain), True)
        self.assertIs(is_tree(chain[:9] + (("j", "a"),)), False)

    def test_leaves(self):
        self.assertEqual((leaves(()), leaves(FLAT), leaves(CHAIN), leaves(LONG)),
                         ((), ("a", "b", "c"), ("a",), ("a", "i" * 8, "z")))
        self.assertEqual(leaves((("a", ""), ("b", "a"))), ("b",))

    def test_ways_up(self):
        self.assertEqual((way_up(FLAT, "b"), way_up(CHAIN, "a"), way_up(CHAIN, "d")),
                         (("",), ("b", "c", "d", ""), ("",)))
        self.assertEqual(way_up(TREE, "bytes"), ("",))
        self.assertEqual(through(CHAIN, "b"), (("flush", "b"), ("flush", "c"), ("flush", "d")))
        self.assertEqual(through(FLAT, "a"), (("flush", "a"),))

    def test_meetings(self):
        self.assertEqual((meeting(FLAT, "a", "b"), meeting(TREE, "utf", "text")), ("", "bytes"))
        self.assertEqual((meeting(TREE, "bytes", "err"), meeting(LONG, "i" * 8, "a"), meeting(LONG, "a", "z")),
                         ("", "iiii", ""))
        self.assertEqual(meeting(LONG, "a", "i" * 5), "iiii")

    def test_no_stream(self):
        for name in ("log", "x"):
            check_raises(self, NoStream(name), way_up, TREE, name)
            check_raises(self, NoStream(name), through, TREE, name)
            check_raises(self, NoStream(name), meeting, TREE, name, "z")
            check_raises(self, NoStream(name), meeting, TREE, "text", name)
            check_raises(self, NoStream(name), way_up, (), name)


class Sure(unittest.TestCase):
    def test_a_tree_of_streams_right_below_the_screen_is_none(self):
        for text in ("a b !a b c !b a !c !a b", "-", "!a !b", "a", "a a b !a c !b b !c a"):
            program = Program.of(text)
            self.assertEqual(table_in(FLAT, program), table_of(program))
            self.assertIs(is_output_in(FLAT, program, program.lines), is_output(program, program.lines))

    def test_chains(self):
        program = Program.of("a !b !a a !b !c !d a !a !b !c !d")
        for line, places in ((("a", 1), [2, 4, 5, 6]), (("a", 2), [8, 9, 10, 11])):
            self.assertEqual([reached_at(CHAIN, program, line, name) for name in ("b", "c", "d", "")], places)
        self.assertEqual(table_in(CHAIN, program), ((("a", 1), ()), (("a", 2), ()), (("a", 3), ())))
        self.assertIs(is_sure_in(CHAIN, program, ("a", 1), ("a", 3)), True)
        self.assertIs(is_sure_in(CHAIN, program, ("a", 3), ("a", 3)), False)

    def test_a_flush_at_a_time_is_not_enough_where_it_comes_too_early(self):
        for text, place in (("text !bytes !text err", None), ("text !text !bytes err", 2),
                            ("!text text !text !text !bytes", 4),
                            ("text !text utf !utf !bytes !bytes", 4), ("text", None), ("text !text", None)):
            self.assertEqual(reached_at(TREE, Program.of(text), ("text", 1), ""), place)

    def test_leaves_that_meet_below_the_screen(self):
        # The line of text has come to bytes; those of err go another way.
        program = Program.of("text !text utf err")
        self.assertEqual(table_in(TREE, program), ((("err", 1), ()), (("text", 1), ()), (("utf", 1), (("text", 1),))))
        self.assertEqual(table_in(TREE, SHARED)[0], (("err", 1), (("text", 1),)))
        self.assertIs(is_sure_in(TREE, SHARED, ("utf", 1), ("err", 1)), False)
        self.assertIs(is_sure_in(TREE, Program.of("text !text utf !utf !bytes err"), ("utf", 1), ("err", 1)), True)

    def test_alike(self):
        for one, other, same in (("text !text !bytes err", "text !bytes !text !bytes err", True),
                                 ("text err", "err text", True),
                                 ("text !text err", "text err", True), ("text !text utf", "text utf", False),
                                 ("text !text !bytes utf", "text !text utf", True), ("text", "text text", False)):
            self.assertIs(alike_in(TREE, Program.of(one), Program.of(other)), same)
            self.assertIs(alike_in(TREE, Program.of(other), Program.of(one)), same)

    def test_what_is_an_output(self):
        text, one, two, err = ("text", 1), ("utf", 1), ("utf", 2), ("err", 1)
        self.assertIs(is_output_in(TREE, SHARED, (one, text, err, two)), True)
        self.assertIs(is_output_in(TREE, Program(), ()), True)
        for thing in ([one, text, err, two], (list(one), text, err, two), (one, text, err), (one, text, err, two, two),
                      (one, one, text, err), (two, text, one, err), (err, text, one, two), (), None, True, 4, "text",
                      SHARED,
                      ((one[0], True), text, err, two), (one, text, err, None), (one, text, err, ("z", 1))):
            self.assertIs(is_output_in(TREE, SHARED, thing), False, thing)


class WrongInputs(unittest.TestCase):
    ASKED = (
        lambda program: reached_at(TREE, program, ("z", 1), "z"),
        lambda program: is_sure_in(TREE, program, ("z", 1), ("z", 2)),
        lambda program: table_in(TREE, program), lambda program: alike_in(TREE, program, Program.of("zzz")),
        lambda program: alike_in(TREE, SHARED, program), lambda program: is_output_in(TREE, program, None),
    )

    def test_the_first_deed_with_either_fault_decides(self):
        for text, wanted in (("text bytes log", NoLeaf("bytes")), ("text log bytes", NoStream("log")),
                             ("!log bytes", NoStream("log")),
                             ("!bytes err !z bytes", NoStream("z")), ("!bytes bytes !z", NoLeaf("bytes")),
                             ("log", NoStream("log"))):
            for ask in self.ASKED:
                check_raises(self, wanted, ask, Program.of(text))

    def test_flushes_of_streams_that_are_no_leaves(self):
        self.assertEqual(table_in(TREE, Program.of("!bytes !err !text !utf")), ())
        check_raises(self, NoStream("a"), table_in, (), Program.of("!a"))

    def test_no_line_comes_ahead_of_no_stream(self):
        for line in (("text", 2), ("text", 0), ("err", 2), ("z", 1), ("bytes", 1)):
            check_raises(self, NoLine(line), reached_at, TREE, SHARED, line, "z")
            check_raises(self, NoLine(line), is_sure_in, TREE, SHARED, line, ("q", 1))
            check_raises(self, NoLine(line), is_sure_in, TREE, SHARED, ("err", 1), line)

    def test_streams_that_are_not_above(self):
        for name in ("z", "text", "utf", "err"):
            check_raises(self, NoStream(name), reached_at, TREE, SHARED, ("text", 1), name)
        check_raises(self, NoStream("bytes"), reached_at, TREE, SHARED, ("err", 1), "bytes")


class Great(unittest.TestCase):
    def test_ten_streams_and_sixty_deeds(self):
        for seed in range(5):
            rng = random.Random(seed)
            deeds = [("write", rng.choice(leaves(LONG))) if rng.random() < 0.4 else ("flush", rng.choice(LONG)[0])
                     for _ in range(60)]
            program = Program(deeds)
            table = table_in(LONG, program)
            self.assertIs(is_output_in(LONG, program, program.lines), True)
            self.assertEqual([line for line, _ in table], sorted(program.lines))
            for line, ahead in table:
                for stream, number in ahead:
                    self.assertIs(is_sure_in(LONG, program, (stream, number), line), True)
                    if (stream, number + 1) in program:
                        self.assertIs(is_sure_in(LONG, program, (stream, number + 1), line), False)

    def test_ten_leaves(self):
        flat = tuple((name, "") for name in "abcdefghij")
        program = Program.of("a b c d e !e !d !c !b !a f g h i j")
        ahead = tuple((own, 1) for own in "abcde")
        self.assertEqual(table_in(flat, program)[5:], tuple(((name, 1), ahead) for name in "fghij"))
        tree = tuple(sorted([(name, "z") for name in "abcdefghi"] + [("z", "")]))
        self.assertEqual(table_in(tree, program.of("a b c !a !b d"))[3], (("d", 1), (("a", 1), ("b", 1))))
        self.assertIs(is_table(table_in(tree, program.of("a b c !a !b d"))), True)


class General(unittest.TestCase):
    def test_each_function(self):
        check_call(self, is_tree, {"thing": TREE})
        check_call(self, leaves, {"tree": TREE})
        check_call(self, way_up, {"tree": TREE, "name": "text"})
        check_call(self, meeting, {"tree": TREE, "one": "text", "other": "err"})
        check_call(self, through, {"tree": TREE, "name": "utf"})
        for name in ("bytes", ""):
            check_call(self, reached_at, {"tree": TREE, "program": SHARED, "line": ("text", 1), "name": name})
        check_call(self, is_sure_in, {"tree": TREE, "program": SHARED, "one": ("text", 1), "other": ("utf", 2)})
        check_call(self, table_in, {"tree": TREE, "program": SHARED})
        check_call(self, alike_in, {"tree": TREE, "one": SHARED, "other": SHARED + Program()})
        check_call(self, is_output_in, {"tree": TREE, "program": SHARED, "thing": SHARED.lines})


if __name__ == "__main__":
    unittest.main()
