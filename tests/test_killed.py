"""Screens of stopped programs [12]: edges, wrong inputs, great Programs, and the general rules."""

import random
import unittest

from asking import check_call, check_raises
from lateshown.errors import NoLine, NoNumber, NoPlace, NoRun
from lateshown.killed import (
    can_show, can_show_at, how_many_runs, how_many_runs_at, how_many_sets, lacking, lost_with, nth_run, number_of_run,
    seen_without, shown_with, stops_of, surely_at,
)
from lateshown.outputs import how_many_outputs, output_at
from lateshown.programs import Program

PROGRAM = Program.of("e o !e o")
E, O, P = ("e", 1), ("o", 1), ("o", 2)
WITH_PLACE = (surely_at, how_many_runs_at, lambda program, place: can_show_at(program, place, ()))


class Edges(unittest.TestCase):
    def test_no_lines(self):
        for text in ("-", "!a", "!a !b !a"):
            program = Program.of(text)
            self.assertEqual((how_many_runs(program), how_many_sets(program), nth_run(program, 0)), (1, 1, ()))
            self.assertEqual((number_of_run(program, ()), lost_with(program, ())), (0, ()))
            self.assertEqual((stops_of(program, ()), lacking(program, ())), ((0, len(program)), None))
            self.assertEqual((shown_with(program, ()), surely_at(program, len(program))), ((), ()))
            self.assertEqual([how_many_runs_at(program, place) for place in range(len(program) + 1)],
                             [1] * (len(program) + 1))

    def test_what_can_be_shown(self):
        for thing in ((), (E,), (O,), (O, E), (E, O), (O, E, P), (E, O, P)):
            self.assertIs(can_show(PROGRAM, thing), True)
        for thing in ((P,), (O, P), (O, P, E), (E, P), (E, E), [O], (list(O),), (("o", True),), None, True, 0, "o", O,
                      (("a", 1),), (E, O, P, ("o", 3)), PROGRAM, (None,), ((E, O),)):
            self.assertIs(can_show(PROGRAM, thing), False, thing)
            for place in range(5):
                self.assertIs(can_show_at(PROGRAM, place, thing), False, thing)

    def test_places_at_the_ends(self):
        self.assertEqual((surely_at(PROGRAM, 0), surely_at(PROGRAM, 4)), ((), (E,)))
        self.assertIs(can_show_at(PROGRAM, 0, ()), True)
        self.assertIs(can_show_at(PROGRAM, 0, (E,)), False)
        self.assertIs(can_show_at(PROGRAM, 4, ()), False)
        self.assertIs(can_show_at(PROGRAM, 4, (E, O, P)), True)
        self.assertEqual((how_many_runs_at(PROGRAM, 0), how_many_runs_at(PROGRAM, 4)), (1, 5))

    def test_a_flush_of_nothing_bars_nothing(self):
        program = Program.of("!a !b a !b b !z")
        self.assertEqual(stops_of(program, ()), (0, 6))
        self.assertEqual(stops_of(program, (("b", 1),)), (5, 6))
        self.assertEqual(lost_with(program, (("b", 1),)), (("a", 1),))

    def test_stops(self):
        program = Program.of("a b !a a !b !a b")
        self.assertEqual(stops_of(program, ()), (0, 2))
        self.assertEqual(stops_of(program, (("a", 1),)), (1, 4))
        self.assertEqual(stops_of(program, (("a", 1), ("a", 2))), (4, 4))
        self.assertEqual(stops_of(program, (("b", 1), ("a", 1))), (2, 5))
        self.assertEqual(stops_of(program, (("b", 1), ("a", 1), ("a", 2))), (4, 7))
        self.assertEqual(stops_of(program, (("b", 1), ("a", 1), ("a", 2), ("b", 2))), (7, 7))
        self.assertEqual(lost_with(program, (("a", 1), ("a", 2))), (("b", 1),))
        self.assertEqual(lost_with(program, (("a", 1),)), ())

    def test_lines_lost_are_ascending(self):
        program = Program.of("b a b a c")
        self.assertEqual(lost_with(program, (("c", 1),)), (("a", 1), ("a", 2), ("b", 1), ("b", 2)))

    def test_lines_shown_with_others(self):
        program = Program.of("a b !a c !b !c d")
        self.assertEqual(shown_with(program, (("d", 1),)), (("a", 1), ("b", 1), ("c", 1), ("d", 1)))
        self.assertEqual(shown_with(program, (("c", 1), ("b", 1))), (("a", 1), ("b", 1), ("c", 1)))
        self.assertEqual(shown_with(Program.of("a a a"), (("a", 2),)), (("a", 1), ("a", 2)))
        self.assertIs(seen_without(program, ("a", 1), ("a", 1)), False)
        self.assertIs(seen_without(program, ("c", 1), ("a", 1)), False)
        self.assertIs(seen_without(program, ("a", 1), ("c", 1)), True)

    def test_the_first_line_and_the_least_lacking(self):
        program = Program.of("b a !a !b c d")
        self.assertEqual(lacking(program, (("c", 1), ("d", 1))), (("c", 1), ("a", 1)))
        self.assertEqual(lacking(program, (("a", 1), ("d", 1), ("c", 1))), (("d", 1), ("b", 1)))
        self.assertIsNone(lacking(program, (("a", 1), ("b", 1), ("d", 1))))

    def test_a_run_comes_ahead_of_those_that_begin_with_it(self):
        runs = ((), (E,), (E, O), (E, O, P), (O,), (O, E), (O, E, P))
        self.assertEqual([number_of_run(PROGRAM, run) for run in runs], list(range(7)))


class WrongInputs(unittest.TestCase):
    def test_no_place(self):
        for place in (-1, 5, 10 ** 40, -10 ** 40):
            for ask in WITH_PLACE:
                check_raises(self, NoPlace(place), ask, PROGRAM, place)
        check_raises(self, NoPlace(5), can_show_at, PROGRAM, 5, (P,))
        with self.assertRaises(NoPlace):
            can_show_at(PROGRAM, 5, None)

    def test_no_line(self):
        for line in (("o", 3), ("o", 0), ("o", -1), ("a", 1), ("e", 10 ** 40)):
            check_raises(self, NoLine(line), shown_with, PROGRAM, (E, line, ("z", 1)))
            check_raises(self, NoLine(line), seen_without, PROGRAM, line, ("z", 1))
            check_raises(self, NoLine(line), seen_without, PROGRAM, E, line)

    def test_no_run(self):
        for run in ((P,), (O, P), (O, P, E)):
            check_raises(self, NoRun(), stops_of, PROGRAM, run)
            check_raises(self, NoRun(), lost_with, PROGRAM, run)
            self.assertIsNone(number_of_run(PROGRAM, run))

    def test_no_number(self):
        for number in (-1, 7, 10 ** 40, -10 ** 40):
            check_raises(self, NoNumber(number), nth_run, PROGRAM, number)
        check_raises(self, NoNumber(1), nth_run, Program(), 1)


class Great(unittest.TestCase):
    def programs(self):
        rng = random.Random(2)
        for lines in ("aaaabbbbccccddddeee", "a" * 30 + "b" * 30, "a" * 13 + "b" * 13 + "c" * 13, "a" * 40,
                      "abcde" * 3):
            for flushes in (0, 3, 9):
                deeds = [("write", stream) for stream in lines] + [("flush", rng.choice(lines)) for _ in range(flushes)]
                rng.shuffle(deeds)
                yield rng, Program(deeds)

    def test_numbers_there_and_back(self):
        for rng, program in self.programs():
            many = how_many_runs(program)
            self.assertEqual((nth_run(program, 0), number_of_run(program, ())), ((), 0))
            last = None
            for number in sorted({0, 1, many // 2, many - 1} | {rng.randrange(many) for _ in range(3)}):
                run = nth_run(program, number)
                self.assertEqual(number_of_run(program, run), number)
                self.assertIs(can_show(program, run), True)
                self.assertTrue(last is None or last <= run)
                last = run
            check_raises(self, NoNumber(many), nth_run, program, many)
            self.assertGreaterEqual(many, how_many_sets(program))

    def test_at_its_end_and_ahead_of_it(self):
        for _, program in self.programs():
            # Behind all deeds each OUTPUT can be shown, and what it begins with, as far as something is held yet.
            self.assertLessEqual(how_many_outputs(program), how_many_runs_at(program, len(program)))
            self.assertLessEqual(how_many_runs_at(program, len(program)), how_many_runs(program))
            full = output_at(program, how_many_outputs(program) - 1)
            self.assertEqual(stops_of(program, full)[1], len(program))
            self.assertEqual(lost_with(program, full), ())

    def test_what_is_lost(self):
        for rng, program in self.programs():
            run = nth_run(program, rng.randrange(how_many_runs(program)))
            first, last = stops_of(program, run)
            self.assertIs(can_show_at(program, first, run) and can_show_at(program, last, run), True)
            self.assertFalse(set(lost_with(program, run)) & set(run))
            self.assertTrue(set(surely_at(program, last)) <= set(run))
            for place in (first - 1, last + 1):
                if 0 <= place <= len(program):
                    self.assertIs(can_show_at(program, place, run), False)

    def test_counts_that_are_known(self):
        self.assertEqual(how_many_runs(Program.of(" ".join("a" * 59))), 60)
        loose = Program.of(" ".join("ab" * 20))
        self.assertEqual(how_many_sets(loose), 21 ** 2)
        # Of all ways from corner to place in a grid of 20 by 20.
        row = [1] * 21
        many = 21
        for _ in range(20):
            for at in range(1, 21):
                row[at] += row[at - 1]
            many += sum(row)
        self.assertEqual(how_many_runs(loose), many)
        self.assertEqual(how_many_runs_at(loose, 40), many)


class General(unittest.TestCase):
    def test_each_function(self):
        for ask in (how_many_sets, how_many_runs):
            check_call(self, ask, {"program": PROGRAM})
        check_call(self, can_show, {"program": PROGRAM, "thing": (O, E)})
        for run in ((O, E), (O, P)):
            check_call(self, lacking, {"program": PROGRAM, "run": run})
            check_call(self, number_of_run, {"program": PROGRAM, "run": run})
        check_call(self, shown_with, {"program": PROGRAM, "lines": (P, O)})
        check_call(self, seen_without, {"program": PROGRAM, "one": P, "other": E})
        for ask in (lost_with, stops_of):
            for run in ((O,), (O, E), (E,)):
                check_call(self, ask, {"program": PROGRAM, "run": run})
        for ask in (surely_at, how_many_runs_at):
            check_call(self, ask, {"program": PROGRAM, "place": 3})
        check_call(self, can_show_at, {"program": PROGRAM, "place": 3, "thing": (O, E)})
        check_call(self, nth_run, {"program": PROGRAM, "number": 5})


if __name__ == "__main__":
    unittest.main()
