"""What was seen [11]: edges, wrong inputs, great WRITES, and the general rules."""

import random
import unittest

import brute
from asking import check_call, check_raises, listed
from lateshown.errors import NoRun, NoStream, NothingDone, OtherWrites
from lateshown.numbers import how_many_tables
from lateshown.order import all_marks, bare, full, lean, marks
from lateshown.outputs import how_many_outputs, is_output, output_at
from lateshown.programs import Program, numbered
from lateshown.seen import (
    Seen, is_run, is_trial, lazy_run, read_runs, refuted_by, refutes, trial, witness,
)
from lateshown.tables import table_of

WRITES = ("e", "o", "o")
E, O, P = ("e", 1), ("o", 1), ("o", 2)
TURNED = (O, E, P)


def drawn_run(rng, writes, often):
    """A RUN that mostly keeps the order in which the lines are written."""
    left = list(numbered(writes))
    out = []
    for _ in range(rng.randrange(len(left) + 1)):
        first = {}
        for line in left:
            first.setdefault(line[0], line)
        line = left[0] if rng.random() < often else rng.choice(sorted(first.values()))
        left.remove(line)
        out.append(line)
    return tuple(out)


class Runs(unittest.TestCase):
    def test_what_is_a_run(self):
        for thing in ((), (E,), (O, P), (O, E, P), (O, P, E)):
            self.assertIs(is_run(WRITES, thing), True)
        for thing in ((P,), (P, O), (E, E), (O, O), (E, O, P, ("o", 3)), (("e", 2),), (("a", 1),), [E], (["e", 1],),
                      None,
                      (("e", True),), (("e", 0),), True, 1, "e", E, (E, None), ((E,),), Program(), (Program(),)):
            self.assertIs(is_run(WRITES, thing), False, thing)
        self.assertIs(is_run((), ()), True)
        self.assertIs(is_run((), (E,)), False)

    def test_the_empty_run_refutes_nothing(self):
        self.assertEqual((refuted_by(WRITES, ()), refuted_by((), ())), ((), ()))
        for flush in brute.all_flushes(WRITES):
            self.assertIs(refutes(WRITES, (), flush), False)
            self.assertIsNone(witness(WRITES, (), flush))

    def test_idle_flushes_are_never_refuted(self):
        for flush in ((0, "e"), (0, "o"), (3, "e"), (3, "o"), (1, "o"), (2, "o")):
            self.assertIsNone(trial(WRITES, flush))
            for run in ((P, O, E), (O, P, E), (O, P), (E, O, P)):
                self.assertIs(is_trial(WRITES, flush, run), False)
        self.assertIsNone(trial(("a", "a"), (1, "a")))

    def test_the_witness_is_the_first_line_and_the_least_lacking(self):
        writes = ("a", "a", "a", "b", "b")
        run = (("b", 1), ("a", 1), ("b", 2))
        self.assertEqual(witness(writes, run, (3, "a")), (("b", 1), ("a", 1)))
        self.assertEqual(witness(writes, run, (4, "a")), (("b", 2), ("a", 2)))
        self.assertEqual(witness(writes, run[1:2] + (("b", 1), ("b", 2)), (2, "a")), (("b", 1), ("a", 2)))
        self.assertIsNone(witness(writes, (("a", 1), ("b", 1), ("b", 2)), (1, "a")))

    def test_the_line_that_shows_it_is_written_behind_the_flush(self):
        # At moment 2 the line of b is written already: nothing is said of it.
        self.assertIs(refutes(("a", "b", "b"), (("b", 1), ("a", 1), ("b", 2)), (2, "a")), False)
        self.assertIs(refutes(("a", "b", "b"), (("b", 1), ("a", 1), ("b", 2)), (1, "a")), True)

    def test_trials(self):
        self.assertIs(is_trial(WRITES, (2, "e"), (O, P, E)), True)
        for thing in (TURNED, (O, P), [O, P, E], (["o", 1], P, E), None, True, (O, P, ("e", True)), (P, O, E), "ope"):
            self.assertIs(is_trial(WRITES, (2, "e"), thing), False, thing)


class TheObject(unittest.TestCase):
    def test_nothing_told(self):
        for writes in ((), ("a",), WRITES, ("a", "b", "a", "c")):
            seen = Seen(writes)
            self.assertEqual((seen.writes, seen.runs, len(seen), seen.refuted()), (writes, (), 0, ()))
            self.assertEqual((seen.left(), seen.how_many()), (all_marks(writes), how_many_tables(writes)))
            self.assertEqual(seen.surest(), full(writes))
            self.assertIs(seen.fits(bare(writes)), True)
            self.assertIsNone(seen.why_not(full(writes)))
            check_raises(self, NothingDone(), seen.back)

    def test_tell_back_and_tell_again(self):
        seen = Seen(WRITES)
        self.assertEqual(seen.tell((O,)), ((1, "e"),))
        self.assertEqual(seen.tell((O,)), ())
        self.assertEqual((len(seen), seen.runs), (2, ((O,), (O,))))
        self.assertIsNone(seen.back())
        self.assertEqual((seen.refuted(), seen.runs), (((1, "e"),), ((O,),)))
        self.assertIsNone(seen.back())
        self.assertEqual((seen.refuted(), seen.runs, seen.left()), ((), (), ((1, "e"), (2, "e"))))
        check_raises(self, NothingDone(), seen.back)
        self.assertEqual(seen.tell((O, P, E)), ((1, "e"), (2, "e")))
        self.assertEqual((seen.left(), seen.how_many(), seen.surest()), ((), 1, bare(WRITES)))
        self.assertEqual(seen.tell(()), ())
        self.assertEqual(len(seen), 2)

    def test_what_is_in_it(self):
        seen = Seen(WRITES)
        seen.tell([list(O), E])
        self.assertIs((O, E) in seen, True)
        self.assertIs([O, list(E)] in seen, True)
        for thing in ((), (O,), (E, O), ((O[0], True), E), None, 1, "oe", Program(), seen, ((O, E),)):
            self.assertIs(thing in seen, False, thing)
        seen.tell(())
        self.assertIs(() in seen, True)
        self.assertIs([] in seen, True)

    def test_equal(self):
        one, other = Seen(WRITES), Seen(list(WRITES))
        self.assertTrue(one == other)
        one.tell((O,))
        self.assertFalse(one == other)
        other.tell([list(O)])
        self.assertTrue(one == other)
        one.tell(())
        other.tell((E,))
        self.assertFalse(one == other)
        other.back()
        other.tell(())
        self.assertTrue(one == other)
        self.assertFalse(one != other)
        self.assertFalse(Seen(("a", "b")) == Seen(("a", "a")))
        first, second = Seen(WRITES), Seen(WRITES)
        for run in ((O,), (E,)):
            first.tell(run)
        for run in ((E,), (O,)):
            second.tell(run)
        self.assertFalse(first == second)
        for thing in (None, WRITES, 0, (), Program(), "Seen"):
            self.assertIs(Seen(()) == thing, False)

    def test_no_iteration(self):
        seen = Seen(WRITES)
        seen.tell((O,))
        for ask in (iter, list, lambda own: [run for run in own], sorted):
            with self.assertRaises(TypeError):
                ask(seen)

    def test_properties_have_no_setters(self):
        seen = Seen(WRITES)
        for name in ("writes", "runs"):
            with self.assertRaises(AttributeError):
                setattr(seen, name, ())

    def test_what_is_no_run_is_not_taken(self):
        seen = Seen(WRITES)
        seen.tell((O,))
        before = seen.twin()
        for run in ((P,), (E, E), (("a", 1),), (E, O, P, ("o", 3)), (P, O), (O, P, E, E)):
            check_raises(self, NoRun(), seen.tell, run)
            self.assertTrue(seen == before)
            self.assertEqual((len(seen), seen.refuted()), (1, ((1, "e"),)))

    def test_a_twin_shares_nothing(self):
        seen = Seen(WRITES)
        seen.tell((O,))
        twin = seen.twin()
        self.assertTrue(twin == seen)
        self.assertEqual((twin.refuted(), twin.runs, twin.writes), (seen.refuted(), seen.runs, seen.writes))
        twin.tell((O, P))
        self.assertEqual((len(seen), len(twin), seen.left(), twin.left()), (1, 2, ((2, "e"),), ()))
        twin.back()
        twin.back()
        self.assertEqual((len(seen), len(twin), seen.refuted(), twin.refuted()), (1, 0, ((1, "e"),), ()))
        seen.back()
        seen.tell((E,))
        self.assertFalse(seen == twin)

    def test_arguments_are_copied_and_answers_are_not_kept(self):
        writes, run = list(WRITES), [list(O), list(E)]
        seen = Seen(writes)
        seen.tell(run)
        writes.append("x")
        run.append(list(P))
        run[0][1] = 2
        self.assertEqual((seen.writes, seen.runs), (WRITES, ((O, E),)))

    def test_why_not(self):
        seen = Seen(WRITES)
        for run in ((E,), (O, E), (O, P, E)):
            seen.tell(run)
        self.assertEqual(seen.why_not(Program.of("e !e o o")), (1, O, E))
        self.assertEqual(seen.why_not(Program.of("e o !e o")), (2, P, E))
        self.assertEqual(listed(seen.why_not(Program.of("!o e o o !e"))), None)
        two = Seen(("a", "b", "c"))
        two.tell((("c", 1),))
        self.assertEqual(two.why_not(Program.of("a b !b !a c")), (0, ("c", 1), ("a", 1)))

    def test_other_writes(self):
        seen = Seen(WRITES)
        for text in ("o e o", "e o", "e o o o", "-", "e o o e"):
            check_raises(self, OtherWrites(), seen.fits, Program.of(text))
            check_raises(self, OtherWrites(), seen.why_not, Program.of(text))
        self.assertIs(seen.fits(Program.of("!e e !z o o !o")), True)

    def test_only_tell_and_back_change_it(self):
        seen = Seen(WRITES)
        seen.tell((O,))
        before = seen.twin()
        for _ in range(2):
            answers = (seen.refuted(), seen.left(), seen.how_many(), seen.surest(), seen.fits(bare(WRITES)),
                       seen.why_not(full(WRITES)), seen.runs, seen.twin(), len(seen), (O,) in seen)
            self.assertTrue(seen == before)
        self.assertEqual(answers[0], ((1, "e"),))


class LazyRuns(unittest.TestCase):
    def test_lazy_runs(self):
        program = Program.of("a b a !a b a !b a b")
        self.assertEqual(lazy_run(program, "a"), (("b", 1), ("a", 1), ("a", 2), ("b", 2), ("b", 3), ("a", 3), ("a", 4)))
        self.assertEqual(lazy_run(program, "b"), (("a", 1), ("a", 2), ("a", 3), ("b", 1), ("b", 2), ("a", 4), ("b", 3)))
        self.assertEqual(lazy_run(Program.of("!a a !a a"), "a"), (("a", 1), ("a", 2)))

    def test_no_stream(self):
        for text, name in (("a !b", "b"), ("-", "a"), ("!a", "a"), ("a b", "c")):
            check_raises(self, NoStream(name), lazy_run, Program.of(text), name)

    def test_read_runs_without_lines_and_with_one_stream(self):
        self.assertEqual(read_runs((), ()), Program())
        self.assertEqual(read_runs(("a", "a"), ((("a", 1), ("a", 2)),)), Program.of("a a"))

    def test_runs_of_no_program(self):
        self.assertIsNone(read_runs(WRITES, (TURNED, TURNED)))
        # What is no OUTPUT is no lazy run either.
        self.assertIsNone(read_runs(WRITES, ((E, P, O), TURNED)))
        self.assertIsNone(read_runs(WRITES, ((E, O), TURNED)))
        # o is lazy: its lines cannot come ahead of that of e.
        self.assertIsNone(read_runs(WRITES, ((E, O, P), (O, E, P))))
        # One line of a comes at its flush, of which both are written.
        runs = ((("a", 1), ("a", 2), ("b", 1)), (("a", 1), ("b", 1), ("a", 2)))
        self.assertIsNone(read_runs(("a", "a", "b"), runs))
        self.assertEqual(read_runs(("a", "a", "b"), ((("a", 1), ("b", 1), ("a", 2)), (("a", 1), ("a", 2), ("b", 1)))),
                         Program.of("a !a a b"))


class Great(unittest.TestCase):
    def writes(self, seed):
        rng = random.Random(seed)
        return rng, tuple(rng.choice("abcde") for _ in range(60))

    def test_many_runs(self):
        for seed in range(3):
            rng, writes = self.writes(seed)
            seen = Seen(writes)
            for _ in range(40):
                run = drawn_run(rng, writes, 0.97)
                before = seen.refuted()
                new = seen.tell(run)
                self.assertEqual(set(new), set(refuted_by(writes, run)) - set(before))
                self.assertIs(run in seen, True)
            self.assertEqual(len(seen), 40)
            surest = seen.surest()
            self.assertEqual(marks(surest), seen.left())
            self.assertIs(seen.fits(surest), True)
            self.assertTrue(1 <= seen.how_many() <= how_many_tables(writes))
            for flush in rng.sample(seen.refuted(), min(5, len(seen.refuted()))):
                program = Program(brute.deeds_with(writes, (flush,)))
                place, line, lacking = seen.why_not(program)
                self.assertEqual(witness(writes, seen.runs[place], flush), (line, lacking))
            twin = seen.twin()
            for _ in range(40):
                twin.back()
            self.assertEqual((len(twin), twin.how_many(), len(seen)), (0, how_many_tables(writes), 40))

    def test_no_program_can_show_a_trial(self):
        _, writes = self.writes(7)
        for flush in brute.all_flushes(writes)[::3]:
            out = trial(writes, flush)
            if out is None:
                self.assertIs(brute.is_no_mark(writes, flush), True)
            else:
                self.assertIs(is_trial(writes, flush, out), True)
                self.assertIs(is_output(Program(brute.deeds_with(writes, (flush,))), out), False)
                self.assertIs(is_output(bare(writes), out), True)

    def test_lazy_runs_there_and_back(self):
        for seed in range(4):
            rng, writes = self.writes(seed)
            program = Program(brute.deeds_with(writes, rng.sample(brute.all_flushes(writes), 25)))
            runs = tuple(lazy_run(program, stream) for stream in program.streams)
            self.assertTrue(all(is_output(program, run) for run in runs))
            found = read_runs(writes, runs)
            self.assertEqual((found, table_of(found)), (lean(program), table_of(program)))

    def test_seen_outputs_leave_less_and_less(self):
        writes = ("a", "b", "a", "b", "b", "a")
        program = Program.of("a b !a a b b !b a")
        seen = Seen(writes)
        left = seen.how_many()
        for number in range(min(40, how_many_outputs(program))):
            seen.tell(output_at(program, number))
            self.assertLessEqual(seen.how_many(), left)
            left = seen.how_many()
        self.assertIs(seen.fits(program), True)


class General(unittest.TestCase):
    def test_each_function(self):
        check_call(self, is_run, {"writes": WRITES, "thing": TURNED})
        for ask in (refutes, witness):
            for flush in ((1, "e"), (2, "e")):
                check_call(self, ask, {"writes": WRITES, "run": TURNED, "flush": flush})
        check_call(self, refuted_by, {"writes": WRITES, "run": (O, P)})
        for flush in ((2, "e"), (2, "o")):
            check_call(self, trial, {"writes": WRITES, "flush": flush})
            check_call(self, is_trial, {"writes": WRITES, "flush": flush, "thing": (O, P, E)})
        check_call(self, lazy_run, {"program": Program.of("e o !e o"), "stream": "e"})
        check_call(self, read_runs, {"writes": WRITES, "runs": (TURNED, (E, O, P))})
        check_call(self, read_runs, {"writes": WRITES, "runs": (TURNED, TURNED)})
        check_call(self, Seen, {"writes": WRITES})

    def test_each_method(self):
        program = Program.of("e !e o o")
        seen = Seen(WRITES)
        seen.tell(TURNED)
        for ask, named in ((seen.refuted, {}), (seen.left, {}), (seen.fits, {"program": program}),
                           (seen.why_not, {"program": program}), (seen.surest, {}), (seen.how_many, {}),
                           (seen.twin, {})):
            check_call(self, ask, named)
        self.assertEqual(seen.tell(run=listed((O, P))), ((2, "e"),))
        self.assertEqual(seen.runs[1], (O, P))


if __name__ == "__main__":
    unittest.main()
