"""Places [7]: edges, wrong inputs, great Programs, and the general rules."""

import unittest
from fractions import Fraction
from itertools import product
from math import comb, gcd

from asking import check_call, check_raises
from lateshown.errors import NoLine, NoOutput
from lateshown.outputs import changes_of, how_many_outputs, is_output, output_at
from lateshown.places import (
    ahead_often, always_neighbours, between, can_be_neighbours, can_stand_between, far_apart, mean_place, often_at,
    pieces, places_of, share_ahead, showing, shows_all, sure_heads, swaps,
)
from lateshown.programs import Program
from lateshown.tables import unsure_pairs

FIRST = Program.of("a b !a b")
A, B, C = ("a", 1), ("b", 1), ("b", 2)
OF_A_LINE = (places_of, often_at, mean_place)
OF_TWO_LINES = (ahead_often, share_ahead, between, can_stand_between, can_be_neighbours, always_neighbours)


class Edges(unittest.TestCase):
    def test_no_lines(self):
        for text in ("-", "!a", "!a !b !a"):
            program = Program.of(text)
            self.assertEqual((sure_heads(program), pieces(program), showing(program)), ((0,), [], ((),)))
            self.assertEqual((swaps(program, (), ()), far_apart(program, (), ())), ([()], 0))
            self.assertIs(shows_all(program, ()), True)
            self.assertIs(shows_all(program, ((), ())), True)

    def test_one_stream_only(self):
        for text in ("a a a", "!a a !b a !a a !a", "a !a a a !c"):
            program = Program.of(text)
            lines = program.lines
            self.assertEqual([places_of(program, line) for line in lines], [(0, 0), (1, 1), (2, 2)])
            self.assertEqual([often_at(program, line) for line in lines], [[(0, 1)], [(1, 1)], [(2, 1)]])
            self.assertEqual([mean_place(program, line) for line in lines], [(0, 1), (1, 1), (2, 1)])
            self.assertEqual((between(program, lines[0], lines[2]), between(program, lines[2], lines[0])), ((1, 1), None))
            self.assertEqual(can_stand_between(program, lines[0], lines[2]), (lines[1],))
            self.assertEqual((sure_heads(program), pieces(program)), ((0, 1, 2, 3), [(line,) for line in lines]))
            self.assertEqual((showing(program), shows_all(program, ())), ((lines,), True))
            self.assertEqual((swaps(program, lines, lines), far_apart(program, lines, lines)), ([lines], 0))
            self.assertEqual([always_neighbours(program, lines[0], line) for line in lines], [False, True, False])
            self.assertEqual([can_be_neighbours(program, lines[0], line) for line in lines], [False, True, False])

    def test_a_line_and_itself(self):
        for program in (FIRST, Program.of("a"), Program.of("a b")):
            for line in program.lines:
                self.assertEqual((ahead_often(program, line, line), share_ahead(program, line, line)), (0, (0, 1)))
                self.assertEqual((between(program, line, line), can_stand_between(program, line, line)), (None, ()))
                self.assertIs(can_be_neighbours(program, line, line), False)
                self.assertIs(always_neighbours(program, line, line), False)

    def test_two_lines_alone(self):
        for text, share, often in (("a b", (1, 2), 1), ("a !a b", (1, 1), 1), ("b !b a", (0, 1), 0)):
            program = Program.of(text)
            self.assertEqual((share_ahead(program, A, B), ahead_often(program, A, B)), (share, often))
            self.assertIs(always_neighbours(program, A, B), True)
            self.assertIs(can_be_neighbours(program, B, A), True)
        self.assertEqual((sure_heads(Program.of("a b")), sure_heads(Program.of("a !a b"))), ((0, 2), (0, 1, 2)))

    def test_neighbours_one_way_about_alone(self):
        program = Program.of("a !a b c")
        self.assertEqual([can_be_neighbours(program, A, other) for other in (B, ("c", 1))], [True, True])
        self.assertEqual([always_neighbours(program, A, other) for other in (B, ("c", 1))], [False, False])
        self.assertIs(always_neighbours(program, ("c", 1), B), True)
        far = Program.of("a !a b !b c")
        self.assertIs(can_be_neighbours(far, A, ("c", 1)), False)
        self.assertIs(can_be_neighbours(far, ("c", 1), A), False)
        self.assertEqual(between(far, A, ("c", 1)), (1, 1))

    def test_streams_without_lines_and_idle_flushes(self):
        busy = Program.of("!z a !y b !b !z !a !a y !y b !z")
        plain = Program.of("a b !a !b y !y b")
        for line in plain.lines:
            self.assertEqual(places_of(busy, line), places_of(plain, line))
            self.assertEqual(often_at(busy, line), often_at(plain, line))
        self.assertEqual((sure_heads(busy), pieces(busy)), ((0, 2, 3, 4), [(A, B), (("y", 1),), (C,)]))
        self.assertTrue(1 <= len(showing(busy)) <= 3)

    def test_several_flushes_at_one_place(self):
        program = Program.of("a b c !b !a !c !a c a")
        self.assertEqual(sure_heads(program), (0, 3, 5))
        self.assertEqual(pieces(program), [(A, B, ("c", 1)), (("a", 2), ("c", 2))])

    def test_places_of_a_line_whose_places_come_unlike_often(self):
        program = Program.of("a a a b")
        self.assertEqual(often_at(program, B), [(0, 1), (1, 1), (2, 1), (3, 1)])
        self.assertEqual(often_at(program, ("a", 2)), [(1, 2), (2, 2)])
        self.assertEqual((mean_place(program, B), mean_place(program, A)), ((3, 2), (1, 4)))

    def test_what_shows_all(self):
        outputs = ((A, B, C), (B, A, C))
        self.assertEqual([shows_all(FIRST, some) for some in (outputs, outputs[::-1], outputs * 6, outputs[1:], ())],
                         [True, True, True, False, False])
        self.assertIs(shows_all(FIRST, [list(outputs[0]), [list(line) for line in outputs[1]]]), True)
        sure = Program.of("a !a b")
        self.assertIs(shows_all(sure, ()), True)
        self.assertIs(shows_all(sure, ((A, B),)), True)


class WrongInputs(unittest.TestCase):
    def test_lines_that_are_not_there(self):
        for line in (("a", 2), ("a", 0), ("b", -1), ("c", 1), ("b", 10 ** 40)):
            for ask in OF_A_LINE:
                check_raises(self, NoLine(line), ask, FIRST, line)
            for ask in OF_TWO_LINES:
                check_raises(self, NoLine(line), ask, FIRST, line, A)
                check_raises(self, NoLine(line), ask, FIRST, A, line)
                check_raises(self, NoLine(line), ask, FIRST, line, line)
                check_raises(self, NoLine(line), ask, FIRST, line, ("z", 1))
                check_raises(self, NoLine(("z", 1)), ask, FIRST, ("z", 1), line)

    def test_no_output(self):
        good, bad = (A, B, C), (B, C, A)
        for ask in (swaps, far_apart):
            for one, other in ((good, bad), (bad, good), (bad, bad), (bad, (C, A, B))):
                check_raises(self, NoOutput(), ask, FIRST, one, other)
        for outputs in ((bad,), (good, bad), (bad, good), (good, (B, A, C), bad)):
            check_raises(self, NoOutput(), shows_all, FIRST, outputs)
        check_raises(self, NoOutput(), shows_all, Program.of("a !a b"), ((B, A),))


class Great(unittest.TestCase):
    PROGRAMS = [Program.of(text) for text in (
        " ".join(["a b"] * 30), " ".join(["a b c !a b c a !b c a b !c"] * 5), " ".join(["a b c"] * 13),
        " ".join(["a b c d e"] * 3 + ["d c !a b a !b !c"] + ["a"] * 2), " ".join(["a b !a c d !b !c"] * 6),
        " ".join(["a a a a a a b !a"] * 7))]
    MANY = Program.of(" ".join(["a b c d e !c", "e d c a b !a !e", "c b a e d !b"] * 3))
    WIDE = Program.of(" ".join(["a b c d e"] * 12))

    def test_how_often(self):
        for program in self.PROGRAMS:
            many = how_many_outputs(program)
            means = 0
            for line in program.lines[::2]:
                often = often_at(program, line)
                low, high = places_of(program, line)
                self.assertEqual([place for place, _ in often], list(range(low, high + 1)))
                self.assertTrue(all(count > 0 for _, count in often))
                self.assertEqual(sum(count for _, count in often), many)
                mean = Fraction(sum(place * count for place, count in often), many)
                self.assertEqual(mean_place(program, line), (mean.numerator, mean.denominator))
            for line in program.lines:
                means += Fraction(*mean_place(program, line))
            self.assertEqual(means, Fraction(sum(range(len(program.lines)))))

    def test_one_ahead_of_the_other(self):
        for program in self.PROGRAMS:
            many = how_many_outputs(program)
            for one, other in product(program.lines[::5], program.lines[::4]):
                if one != other:
                    ahead = ahead_often(program, one, other)
                    self.assertEqual(ahead + ahead_often(program, other, one), many)
                    top, bottom = share_ahead(program, one, other)
                    self.assertEqual((top * many, gcd(top, bottom), bottom > 0), (ahead * bottom, 1, True))
                    self.assertIs(between(program, one, other) is None, ahead == 0)
            # The mean place of a line is the sum of the shares of all others that stand ahead of it.
            line = program.lines[len(program.lines) // 2]
            shares = sum(Fraction(*share_ahead(program, one, line)) for one in program.lines)
            self.assertEqual(Fraction(*mean_place(program, line)), shares)

    def test_known_numbers(self):
        program = Program.of(" ".join(["a b"] * 30))
        self.assertEqual(ahead_often(program, A, B), comb(59, 29))
        self.assertEqual((mean_place(program, A), share_ahead(program, A, B)), ((30, 31), (1, 2)))
        self.assertEqual(often_at(program, ("a", 30))[-1], (59, comb(59, 29)))
        self.assertEqual(between(program, A, ("b", 30)), (0, 58))
        self.assertEqual(len(can_stand_between(program, A, ("b", 30))), 58)
        self.assertEqual(between(program, ("b", 30), A), (0, 0))

    def test_many_lines_of_five_streams(self):
        for program in (self.MANY, self.WIDE):
            shown = showing(program)
            self.assertEqual(len(shown), len(set(shown)))
            self.assertTrue(1 <= len(shown) <= 5)
            self.assertTrue(all(is_output(program, output) for output in shown))
            self.assertIs(shows_all(program, shown), True)
            # Each of the five alone puts its stream behind all others.
            self.assertIs(shows_all(program, shown[:1]), False)
            one, other = shown[0], shown[-1]
            rows = swaps(program, one, other)
            self.assertEqual((rows[0], rows[-1], len(rows) - 1), (one, other, far_apart(program, one, other)))
            for row, after in zip(rows, rows[1:]):
                self.assertIs(is_output(program, after), True)
                self.assertEqual(sum(own != its for own, its in zip(row, after)), 2)
            turned = sum(one.index(first) < one.index(second) and other.index(first) > other.index(second)
                         for first, second in product(program.lines, repeat=2))
            self.assertEqual(len(rows) - 1, turned)

    def test_places_and_pieces_of_many_lines(self):
        self.assertEqual([places_of(self.WIDE, (stream, 7)) for stream in "abcde"], [(6, 54)] * 5)
        self.assertEqual((sure_heads(self.WIDE), pieces(self.WIDE)), ((0, 60), [tuple(sorted(self.WIDE.lines))]))
        self.assertEqual(between(self.WIDE, ("a", 3), ("e", 9)), (0, 53))
        parted = Program.of(" ".join(["a b c d !a !b !c !d"] * 7))
        self.assertEqual(sure_heads(parted), tuple(range(0, 29, 4)))
        self.assertEqual(pieces(parted), [tuple((stream, number) for stream in "abcd") for number in range(1, 8)])
        self.assertEqual(places_of(parted, ("c", 4)), (12, 15))
        self.assertEqual(between(parted, ("a", 1), ("d", 7)), (20, 26))
        self.assertIsNone(between(parted, ("d", 7), ("a", 1)))
        self.assertIs(can_be_neighbours(parted, ("a", 1), ("b", 2)), True)
        self.assertIs(can_be_neighbours(parted, ("a", 1), ("b", 3)), False)

    def test_pairs_of_many_lines(self):
        unsure = {pair for one, other in unsure_pairs(self.MANY) for pair in ((one, other), (other, one))}
        lines = self.MANY.lines
        for one, other in product(lines[::2], lines[::3]):
            told = between(self.MANY, one, other)
            self.assertEqual(told is None, one == other or not ((one, other) in unsure or self.is_ahead(one, other)))
            if told is not None:
                self.assertEqual(told[1], len(can_stand_between(self.MANY, one, other)))
                self.assertTrue(0 <= told[0] <= told[1])
                if (one, other) in unsure:
                    self.assertEqual(told[0], 0)
                    self.assertIs(can_be_neighbours(self.MANY, one, other), True)

    def is_ahead(self, one, other):
        lines = self.MANY.lines
        return lines.index(one) < lines.index(other)


class GeneralRules(unittest.TestCase):
    def calls(self):
        loose = Program.of("a a b b !c c")
        for ask in (sure_heads, pieces, showing):
            for program in (FIRST, loose, Program()):
                yield ask, {"program": program}
        for program in (FIRST, loose):
            for line in program.lines:
                yield from ((ask, {"program": program, "line": line}) for ask in OF_A_LINE)
            for one, other in product(program.lines, repeat=2):
                yield from ((ask, {"program": program, "one": one, "other": other}) for ask in OF_TWO_LINES)
            one, other = output_at(program, 0), output_at(program, 1)
            yield from ((ask, {"program": program, "one": one, "other": other}) for ask in (swaps, far_apart))
            yield shows_all, {"program": program, "outputs": (one, other)}
            yield shows_all, {"program": program, "outputs": showing(program)}

    def test_lists_for_tuples_names_and_the_same_call_again(self):
        for ask, named in self.calls():
            check_call(self, ask, named)

    def test_other_programs_in_between(self):
        loose = Program.of("a a b b !c c")
        for ask in (showing, pieces, sure_heads):
            answer = ask(loose)
            ask(FIRST)
            self.assertEqual(ask(Program(loose.deeds)), answer)
        one, other = output_at(loose, 3), output_at(loose, 23)
        rows = swaps(loose, one, other)
        swaps(loose, other, one)
        swaps(FIRST, (A, B, C), (B, A, C))
        self.assertEqual(swaps(loose, one, other), rows)

    def test_kinds(self):
        for answer in (often_at(FIRST, A), pieces(FIRST), swaps(FIRST, [A, B, C], [B, A, C])):
            self.assertIs(type(answer), list)
            self.assertTrue(all(type(part) is tuple for part in answer))
        for answer in (places_of(FIRST, A), mean_place(FIRST, A), share_ahead(FIRST, A, B), between(FIRST, A, B),
                       can_stand_between(FIRST, A, C), sure_heads(FIRST), showing(FIRST)):
            self.assertIs(type(answer), tuple)
        for ask in (can_be_neighbours, always_neighbours):
            for one, other in product(FIRST.lines, repeat=2):
                self.assertIs(type(ask(FIRST, one, other)), bool)
        self.assertEqual(changes_of(showing(FIRST)[0]), 2)


if __name__ == "__main__":
    unittest.main()
