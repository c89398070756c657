"""Programs [4], and the general rules [2], [3] for them."""

import unittest
from itertools import product

import brute
from lateshown.errors import BadText, NoLine, NoPlace
from lateshown.programs import (
    Program, flushed_at, how_many_lines, is_deed, is_line, is_name, may_hold, out_by, with_deed,
    without_deed, written_at, written_by,
)

FIRST = Program.of("a b !a b")
OTHER_THINGS = (None, True, False, 0, 1, -1, 10 ** 41, "", "a", "!a", "a1", (), [], ("a",), ["a", 1], ((),),
                ("a", 1, 1), (("a", 1),), (None, None), (Program(), 1), ("a", Program()), Program(), FIRST)


class Forms(unittest.TestCase):
    def test_names(self):
        for name in ("a", "z", "abcdefgh", "write", "flush"):
            self.assertIs(is_name(name), True, name)
        for thing in ("", "abcdefghi", "A", "aB", "a1", "a b", " a", "a\n", "-", "!a", "\u00e4", "\u0430", "\uff41",
                      ("a",), ["a"], None, True, 1, Program(), b"a"):
            self.assertIs(is_name(thing), False, thing)

    def test_deeds(self):
        for thing in (("write", "a"), ("flush", "abcdefgh")):
            self.assertIs(is_deed(thing), True)
        for thing in (["write", "a"], ("write",), ("write", "a", "a"), ("close", "a"), ("a", "write"), ("write", "A"),
                      ("write", ""), ("write", "abcdefghi"), ("Write", "a"), "write", ("write", ("a",)),
                      (["write"], "a"), (("write",), "a"), (Program(), "a"), (True, "a"), ("write", 1), ("write", None),
                      *OTHER_THINGS):
            self.assertIs(is_deed(thing), False, thing)

    def test_lines(self):
        for thing in (("a", 1), ("abcdefgh", 10 ** 40), ("a", 10 ** 50)):
            self.assertIs(is_line(thing), True)
        for thing in (["a", 1], ("a", 0), ("a", -1), ("a", True), ("a", False), ("a", None), ("a", "1"), (1, "a"),
                      ("A", 1), ("", 1), ("abcdefghi", 1), (["a"], 1), ("a", (1,)), *OTHER_THINGS):
            self.assertIs(is_line(thing), False, thing)

    def test_examples(self):
        self.assertEqual(
            (is_deed(("flush", "a")), is_deed(("close", "a")), is_line(("a", 0)), is_line(("a", 1)), is_name("A")),
            (True, False, False, True, False))


class TheClass(unittest.TestCase):
    def test_examples(self):
        first = FIRST
        self.assertEqual(
            (first.deeds, first.lines, first.writes, first.streams),
            ((("write", "a"), ("write", "b"), ("flush", "a"), ("write", "b")), (("a", 1), ("b", 1), ("b", 2)),
             ("a", "b", "b"), ("a", "b")))
        self.assertEqual(
            (first.text, len(first), first[2], ("b", 2) in first, ("b", 3) in first, Program().text,
             Program.of("-") == Program(), Program.of("!a") == Program(), Program.of("!a").streams),
            ("a b !a b", 4, ("flush", "a"), True, False, "-", True, False, ()))
        self.assertEqual(
            ((first + first).lines[3:], (first >> ("flush", "b")).text, with_deed(first, 0, ("flush", "b")).text,
             without_deed(first, 2).text),
            ((("a", 2), ("b", 3), ("b", 4)), "a b !a b !b", "!b a b !a b", "a b b"))

    def test_no_deeds(self):
        for empty in (Program(), Program(()), Program([]), Program(deeds=()), Program.of("-")):
            self.assertEqual((empty.deeds, empty.lines, empty.writes, empty.streams, empty.text, len(empty)),
                             ((), (), (), (), "-", 0))
            self.assertEqual(empty, Program())

    def test_lists_and_tuples_are_taken_at_any_depth(self):
        deeds = (("write", "b"), ("flush", "b"), ("write", "a"))
        for given in (deeds, list(deeds), [list(deed) for deed in deeds], tuple(list(deed) for deed in deeds)):
            self.assertEqual(Program(given).deeds, deeds)
            self.assertEqual(Program(deeds=given), Program(deeds))

    def test_arguments_are_copied(self):
        deed = ["write", "a"]
        deeds = [deed]
        program = Program(deeds)
        deed[1] = "b"
        deeds.append(["write", "c"])
        self.assertEqual((program.deeds, program.lines, program.text), ((("write", "a"),), (("a", 1),), "a"))
        behind = ["flush", "a"]
        longer = program >> behind
        put = with_deed(program, 0, behind)
        behind[1] = "z"
        self.assertEqual((longer.text, put.text, program.text), ("a !a", "!a a", "a"))

    def test_values_are_tuples(self):
        for program in (Program(), FIRST, Program([["write", "a"]])):
            for worth in (program.deeds, program.lines, program.writes, program.streams):
                self.assertIs(type(worth), tuple)

    def test_properties_have_no_setters(self):
        for name in ("deeds", "lines", "writes", "streams", "text"):
            with self.assertRaises(AttributeError):
                setattr(FIRST, name, ())
            self.assertIsInstance(vars(Program)[name], property)

    def test_streams_are_those_with_a_line_ascending(self):
        self.assertEqual(Program.of("c b !d c a !e").streams, ("a", "b", "c"))
        self.assertEqual(Program.of("zz c b zy a z !x").streams, ("a", "b", "c", "z", "zy", "zz"))

    def test_texts_come_back(self):
        for deeds in brute.all_deeds(("a", "bc"), 4):
            program = Program(deeds)
            self.assertEqual(Program.of(program.text), program)
            self.assertEqual(len(program), len(deeds))

    def test_each_string_is_the_text_of_its_program_or_of_none(self):
        good = {Program(deeds).text for deeds in brute.all_deeds(("a", "b", "ab", "ba", "aa", "bb"), 2)}
        good |= {"".join(signs) for many in range(1, 5) for signs in product("ab", repeat=many)}
        for many in range(5):
            for signs in product("ab !-", repeat=many):
                text = "".join(signs)
                try:
                    self.assertEqual(Program.of(text).text, text)
                except BadText:
                    self.assertNotIn(text, good)

    def test_what_is_almost_a_text(self):
        for text in ("", " ", "a  b", " a", "a ", "a\n", "\na", "a\tb", "a\nb", "A", "a B", "!", "a !", "! a", "!!a", "a!",
                     "a!b", "- a", "a -", "--", "-a", "!-", "abcdefghi", "!abcdefghi", "a1", "a,b", "a\u00a0b", "\u00e4",
                     "\u0430", "\ud800", "\x00", "a b !a b ", "0", "a 1", "write(a)"):
            with self.assertRaises(BadText, msg=repr(text)):
                Program.of(text)

    def test_texts_may_tell_more_than_the_bounds(self):
        names = ["a", "b", "c", "d", "e", "f", "g"] * 100
        text = " ".join(names + ["!" + name for name in names])
        program = Program.of(text=text)
        self.assertEqual((len(program), program.text, len(program.lines), len(program.streams)), (1400, text, 700, 7))
        self.assertEqual(how_many_lines(program, "g"), 100)

    def test_places(self):
        self.assertEqual([FIRST[place] for place in range(4)], list(FIRST.deeds))
        for place in (-1, -4, 4, 5, 10 ** 40, -10 ** 40):
            with self.assertRaises(NoPlace) as caught:
                FIRST[place]
            self.assertEqual(caught.exception.place, place)
        with self.assertRaises(NoPlace):
            Program()[0]

    def test_membership(self):
        for line in FIRST.lines:
            self.assertIs(line in FIRST, True)
            self.assertIs(list(line) in FIRST, True)
        for thing in (("a", 2), ("a", 0), ("b", 3), ("b", -1), ("c", 1), ("a", True), ("b", True), ("b", 10 ** 40),
                      ("write", "a"), (1, "a"), ("a", "1"), ("A", 1), *[own for own in OTHER_THINGS if own != ["a", 1]]):
            self.assertIs(thing in FIRST, False, thing)
        self.assertNotIn(("a", 1), Program.of("!a b"))

    def test_equality(self):
        self.assertTrue(FIRST == Program(FIRST.deeds))
        self.assertFalse(FIRST != Program(FIRST.deeds))
        for other in (Program(), Program.of("a b !a"), Program.of("b a !a b"), Program.of("a b !b b"), *OTHER_THINGS,
                      FIRST.deeds, list(FIRST.deeds), FIRST.text, object()):
            if other is not FIRST:
                self.assertIs(FIRST == other, False)
                self.assertIs(FIRST != other, True)
                self.assertIs(other == FIRST, False)

    def test_it_is_not_to_be_gone_through(self):
        for program in (FIRST, Program()):
            for going in (list, tuple, iter, sorted, enumerate):
                with self.assertRaises(TypeError):
                    going(program)
            with self.assertRaises(TypeError):
                for _ in program:
                    pass

    def test_sums(self):
        one, other = Program.of("a !b"), Program.of("b a")
        self.assertEqual((one + other).text, "a !b b a")
        self.assertEqual((other + one).text, "b a a !b")
        self.assertEqual((one + Program(), Program() + one, Program() + Program()), (one, one, Program()))
        self.assertEqual((one.text, other.text), ("a !b", "b a"))
        self.assertEqual((one >> ["write", "c"]).deeds, (("write", "a"), ("flush", "b"), ("write", "c")))
        self.assertEqual((Program() >> ("flush", "a")).text, "!a")
        long = FIRST
        for _ in range(5):
            long = long + long
        self.assertEqual((len(long), len(long.lines)), (128, 96))

    def test_operators_change_nothing(self):
        program = Program.of("a")
        same = program
        program += Program.of("b")
        program >>= ("flush", "a")
        self.assertEqual((program.text, same.text), ("a b !a", "a"))


class Functions(unittest.TestCase):
    def test_examples(self):
        first = FIRST
        self.assertEqual(
            (how_many_lines(first, "b"), how_many_lines(first, "c"), written_at(first, ("b", 2)),
             flushed_at(first, ("a", 1)), flushed_at(first, ("b", 1))), (2, 0, 3, 2, None))
        self.assertEqual(
            [written_by(first, place) for place in range(5)],
            [(), (("a", 1),), (("a", 1), ("b", 1)), (("a", 1), ("b", 1)), (("a", 1), ("b", 2))])
        self.assertEqual(
            ([out_by(first, place) for place in range(5)], may_hold(first, 2, "a"), may_hold(first, 3, "a"),
             may_hold(first, 4, "b"), may_hold(first, 4, "c")),
            ([(), (), (), (("a", 1),), (("a", 1),)], 1, 0, 2, 0))
        with self.assertRaises(NoPlace) as caught:
            first[4]
        self.assertEqual(caught.exception.place, 4)
        with self.assertRaises(NoLine) as caught:
            written_at(first, ("a", 2))
        self.assertEqual(caught.exception.line, ("a", 2))
        with self.assertRaises(BadText):
            Program.of("a  b")

    def test_lines_that_are_not_there(self):
        for line in (("a", 2), ("a", 0), ("a", -1), ("b", 3), ("c", 1), ("b", 10 ** 40), ("b", -10 ** 40)):
            for given in (line, list(line)):
                for ask in (written_at, flushed_at):
                    with self.assertRaises(NoLine) as caught:
                        ask(FIRST, given)
                    self.assertEqual(caught.exception.line, line)
                    self.assertIs(type(caught.exception.line), tuple)

    def test_flushed_at_is_the_first_one_behind(self):
        program = Program.of("!a a !b a !a !a a b !a !c")
        self.assertEqual([written_at(program, ("a", number)) for number in (1, 2, 3)], [1, 3, 6])
        self.assertEqual([flushed_at(program, ("a", number)) for number in (1, 2, 3)], [4, 4, 8])
        self.assertIsNone(flushed_at(program, ("b", 1)))

    def test_places_that_are_not_there(self):
        for program, last in ((FIRST, 4), (Program(), 0)):
            for place in (-1, last + 1, 10 ** 40, -10 ** 40):
                for ask in (written_by, out_by, lambda one, at: may_hold(one, at, "a"),
                            lambda one, at: with_deed(one, at, ("write", "a")), without_deed):
                    with self.assertRaises(NoPlace) as caught:
                        ask(program, place)
                    self.assertEqual(caught.exception.place, place)
            with self.assertRaises(NoPlace) as caught:
                without_deed(program, last)
            self.assertEqual(caught.exception.place, last)

    def test_behind_all_deeds(self):
        self.assertEqual((written_by(Program(), 0), out_by(Program(), 0), may_hold(Program(), 0, "a")), ((), (), 0))
        self.assertEqual(with_deed(Program(), 0, ["write", "a"]).text, "a")
        self.assertEqual(with_deed(FIRST, 4, ("flush", "c")).text, "a b !a b !c")
        self.assertEqual([with_deed(FIRST, place, ("write", "c")).text for place in range(5)],
                         ["c a b !a b", "a c b !a b", "a b c !a b", "a b !a c b", "a b !a b c"])
        self.assertEqual([without_deed(FIRST, place).text for place in range(4)],
                         ["b !a b", "a !a b", "a b b", "a b !a"])
        self.assertEqual(without_deed(Program.of("a"), 0), Program())
        self.assertEqual(FIRST.text, "a b !a b")

    def test_flushes_of_streams_that_hold_nothing(self):
        program = Program.of("!a !c b !b !b a !b")
        self.assertEqual([out_by(program, place) for place in range(8)],
                         [(), (), (), (), (("b", 1),), (("b", 1),), (("b", 1),), (("b", 1),)])
        self.assertEqual(written_by(program, 7), (("a", 1), ("b", 1)))
        self.assertEqual([may_hold(program, place, "b") for place in range(8)], [0, 0, 0, 1, 0, 0, 0, 0])
        self.assertEqual((may_hold(program, 7, "a"), may_hold(program, 7, "c")), (1, 0))

    def test_by_going_through_the_deeds(self):
        for deeds in brute.all_deeds(("a", "b"), 5):
            program = Program(deeds)
            for place in range(len(deeds) + 1):
                written, out = {}, {}
                for word, stream in deeds[:place]:
                    if word == "write":
                        written[stream] = written.get(stream, 0) + 1
                    elif stream in written:
                        out[stream] = written[stream]
                self.assertEqual(written_by(program, place), tuple(sorted(written.items())))
                self.assertEqual(out_by(program, place), tuple(sorted(out.items())))
                for stream in "abc":
                    self.assertEqual(may_hold(program, place, stream), written.get(stream, 0) - out.get(stream, 0))
            self.assertEqual(tuple(sorted(program.lines)), brute.lines_of_counts(
                {stream: how_many_lines(program, stream) for stream in "ab"}))

    def test_may_hold_is_the_most_that_some_habit_leaves(self):
        for deeds in brute.all_deeds(("a", "b"), 4):
            screens, written = {()}, {}
            for place, (word, stream) in enumerate(deeds):
                screens = brute.with_more_let_out(screens, written)
                for name in "ab":
                    self.assertEqual(may_hold(Program(deeds), place, name), self.most_held(screens, written, name))
                if word == "write":
                    written[stream] = written.get(stream, 0) + 1
                else:
                    screens = {brute.flushed(out, written, stream) for out in screens}

    def most_held(self, screens, written, stream):
        holds = [lines for out in screens for lines in brute.held(out, written) if lines[0][0] == stream]
        return max([len(lines) for lines in holds], default=0)


if __name__ == "__main__":
    unittest.main()
