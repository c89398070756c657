"""Outputs [6]: edges, wrong inputs, great Programs, and the general rules."""

import unittest
from math import comb, factorial

from asking import check_call, check_raises, listed
from lateshown.errors import NoNumber, NoOutput, NoStart
from lateshown.outputs import (
    broken_at, changes_of, fewest_changes, how_many_outputs, how_many_sets_seen, is_output, is_schedule, is_start,
    last_lines, most_changes, next_lines, number_of_output, output_at, outputs_behind, schedule, with_fewest_changes,
)
from lateshown.programs import Program

FIRST = Program.of("a b !a b")
A, B, C = ("a", 1), ("b", 1), ("b", 2)
THINGS = (None, True, False, 0, 1, -1, "", "a", "ab", Program(), FIRST, [], (None,), (True,), (1,), ("a",), ("a", 1),
          ((),), [()], ((), ()), [A], [A, B, C], (list(A), B, C), (A, B, ["b", 2]), (A, B, (C,)), ((A, B, C),),
          (("a", True), B, C), (A, ("b", True), C), (A, B, ("b", 2, 2)), (A, B, "b2"), (A, B, C, C), (A, B, C, None),
          (A, A, B), (("a", 0), A), (("a", -1),), (("A", 1),), (("a", 10 ** 40),), (A, FIRST), (A, (FIRST, 1)), FIRST.deeds)


class Forms(unittest.TestCase):
    def test_things_that_are_no_outputs_and_no_starts(self):
        for thing in THINGS:
            self.assertIs(is_output(FIRST, thing), False, thing)
            self.assertIs(is_start(FIRST, thing), False, thing)
            if thing != ():
                self.assertIs(is_output(Program(), thing), False, thing)

    def test_starts_and_outputs(self):
        self.assertIs(is_start(FIRST, ()), True)
        self.assertIs(is_output(FIRST, ()), False)
        for many in range(4):
            self.assertIs(is_start(FIRST, (B, A, C)[:many]), True)
            self.assertIs(is_output(FIRST, (B, A, C)[:many]), many == 3)
        self.assertIs(is_start(FIRST, (B, C)), False)

    def test_deep_things(self):
        deep = ()
        for _ in range(11):
            deep = (deep,)
        for thing in (deep, (deep, deep), (A, deep), listed(deep)):
            self.assertIs(is_output(FIRST, thing), False)
            self.assertIs(is_start(FIRST, thing), False)
            self.assertIs(is_schedule(FIRST, (A, B, C), thing), False)

    def test_things_that_are_no_schedules(self):
        good = (2, 2, 4)
        self.assertIs(is_schedule(FIRST, (B, A, C), good), True)
        for thing in (list(good), good[:2], (*good, 4), (2, 2, 5), (1, 2, 4), (2, 1, 4), (2, 2, 3), (3, 3, 4), (4, 4, 4),
                      (2, 2, "4"), (2, 2, None), ((2,), (2,), (4,)), (2, 2, 10 ** 40), (-10 ** 40, 2, 4), *THINGS):
            self.assertIs(is_schedule(FIRST, (B, A, C), thing), False, thing)
        # True would be 1, a place at which the line of a can be let out.
        self.assertIs(is_schedule(FIRST, (A, B, C), (1, 2, 4)), True)
        self.assertIs(is_schedule(FIRST, (A, B, C), (True, 2, 4)), False)


class Edges(unittest.TestCase):
    def check_only(self, program, out):
        """All functions, for a Program with just one OUTPUT."""
        self.assertIs(is_output(program, out), True)
        self.assertIsNone(broken_at(program, out))
        self.assertEqual((how_many_outputs(program), how_many_sets_seen(program)), (1, len(out) + 1))
        self.assertEqual((output_at(program, 0), number_of_output(program, out)), (out, 0))
        self.assertEqual(next_lines(program, ()), out[:1])
        self.assertEqual(next_lines(program, out), ())
        self.assertEqual((outputs_behind(program, ()), outputs_behind(program, out)), (1, 1))
        self.assertEqual(last_lines(program), out[-1:])
        self.assertEqual((with_fewest_changes(program), fewest_changes(program)), (out, most_changes(program)))
        self.assertEqual(fewest_changes(program), changes_of(out))
        self.assertIs(is_schedule(program, out, schedule(program, out)), True)
        for number in (-1, 1, 10 ** 40, -10 ** 40):
            check_raises(self, NoNumber(number), output_at, program, number)

    def test_no_lines(self):
        for text in ("-", "!a", "!a !b !a"):
            self.check_only(Program.of(text), ())
            self.assertEqual(schedule(Program.of(text), ()), ())
            self.assertIs(is_schedule(Program.of(text), (), []), False)
        check_raises(self, NoStart(0), next_lines, Program(), (A,))

    def test_one_stream_only(self):
        for text in ("a", "a a a", "!a a !a a !b a !a", "!b a !c a"):
            program = Program.of(text)
            self.check_only(program, program.lines)
        self.check_only(Program.of(" ".join(["a"] * 60)), tuple(("a", number) for number in range(1, 61)))

    def test_streams_without_lines(self):
        plain, busy = Program.of("a b !a b"), Program.of("!z a !y b !z !a !y b !z")
        self.assertEqual((how_many_outputs(busy), how_many_sets_seen(busy)), (2, 5))
        for number in range(2):
            self.assertEqual(output_at(busy, number), output_at(plain, number))
            self.assertIs(is_schedule(busy, output_at(busy, number), schedule(busy, output_at(busy, number))), True)
        self.assertIs(is_start(busy, (("z", 1),)), False)

    def test_all_is_flushed_at_once(self):
        for text in ("a !a b !b a !a c !c", "a !b !a !c !a b !b !b a !a !b c"):
            self.check_only(Program.of(text), (A, B, ("a", 2), ("c", 1)))

    def test_idle_flushes_and_several_at_one_place(self):
        for text in ("!a a b !a !a b !a !b", "a !b b !b !a !a b", "!a !b a b !b !a b"):
            self.assertEqual([output_at(Program.of(text), number) for number in range(how_many_outputs(Program.of(text)))],
                             [(A, B, C), (B, A, C)], text)

    def test_numbers_ascend_by_comparison(self):
        program = Program.of("b aa a aa !c b")
        seen = [output_at(program, number) for number in range(how_many_outputs(program))]
        self.assertEqual(seen, sorted(seen))
        self.assertEqual(len(set(seen)), 30)

    def test_lines_from_the_tenth_on(self):
        program = Program.of("a a a a a a a a a a a b")
        self.assertEqual(output_at(program, 0), program.lines)
        self.assertEqual(output_at(program, 11), (B, *program.lines[:-1]))
        self.assertEqual(last_lines(program), (("a", 11), B))
        self.assertEqual(broken_at(program, program.lines[::-1]), (1, ("a", 1)))
        self.assertEqual(broken_at(program, (*program.lines[1:], ("a", 1))), (0, ("a", 1)))
        self.assertEqual(broken_at(program, (A, *program.lines[2:10], ("a", 11), B, ("a", 2))), (1, ("a", 2)))

    def test_the_least_lacking_line(self):
        program = Program.of("b b a !b !a c")
        lines = (("c", 1), ("b", 1), ("b", 2), ("a", 1))
        self.assertEqual(broken_at(program, lines), (0, ("a", 1)))
        self.assertEqual(broken_at(program, (lines[3], lines[0], *lines[1:3])), (1, ("b", 1)))
        self.assertEqual(broken_at(program, (lines[3], lines[1], lines[0], lines[2])), (2, ("b", 2)))

    def test_changes_of_any_lines(self):
        self.assertEqual([changes_of(lines) for lines in (
            (), (A,), (A, A), (A, B), (B, C, A, B, A), (("x", 9), ("x", 3), ("y", 9)), [["a", 1], ["b", 1]])],
            [0, 0, 0, 1, 3, 1, 1])


class WrongInputs(unittest.TestCase):
    def test_no_start(self):
        for lines, place in (
            ((C,), 0), ((("z", 1),), 0), ((A, A), 1), ((A, ("a", 2)), 1), ((B, C, A), 1), ((A, B, C, C), 3),
            ((A, B, C, ("a", 2), C), 3), ((("a", 0),), 0), ((B, A, ("b", 10 ** 40)), 2), ((B, ("b", -1)), 1),
        ):
            check_raises(self, NoStart(place), next_lines, FIRST, lines)
            check_raises(self, NoStart(place), outputs_behind, FIRST, lines)

    def test_no_number(self):
        for number in (-1, 2, 3, 10 ** 40, -2):
            check_raises(self, NoNumber(number), output_at, FIRST, number)

    def test_no_output(self):
        for order in ((B, C, A), (C, A, B), (C, B, A), (A, C, B)):
            check_raises(self, NoOutput(), schedule, FIRST, order)
            for thing in ((2, 3, 4), (), None, schedule(FIRST, (A, B, C))):
                with self.assertRaises(NoOutput):
                    is_schedule(FIRST, order, thing)
            self.assertIsNone(number_of_output(FIRST, order))
            self.assertIsNone(number_of_output(FIRST, listed(order)))


class Great(unittest.TestCase):
    def many_of(self, *counts):
        """How many OUTPUTs there are if nothing is sure but what each stream has."""
        many = factorial(sum(counts))
        for count in counts:
            many //= factorial(count)
        return many

    def check_great(self, program):
        many = how_many_outputs(program)
        sums = [outputs_behind(program, (line,)) for line in next_lines(program, ())]
        self.assertEqual(sum(sums), many)
        last = -1
        for number in sorted({0, 1, many // 7, many // 2, many - many // 3, many - 2, many - 1} - {-1, many}):
            out = output_at(program, number)
            self.assertIs(is_output(program, out), True)
            self.assertEqual(number_of_output(program, out), number)
            self.assertIsNone(broken_at(program, out))
            self.assertIs(is_schedule(program, out, schedule(program, out)), True)
            self.assertTrue(last == -1 or output_at(program, last) < out)
            self.assertTrue(fewest_changes(program) <= changes_of(out) <= most_changes(program))
            last = number
        chosen = with_fewest_changes(program)
        self.assertIs(is_output(program, chosen), True)
        self.assertEqual(changes_of(chosen), fewest_changes(program))
        check_raises(self, NoNumber(many), output_at, program, many)
        check_raises(self, NoNumber(-many), output_at, program, -many)

    def test_nothing_is_sure(self):
        for counts, most in (((30, 30), 59), ((13, 13, 13), 38), ((6, 6, 6, 6), 23), ((4, 4, 4, 4, 3), 18), ((50, 9), 18),
                             ((4, 3, 4, 4, 4), 18)):
            program = Program.of(" ".join(stream for stream, count in zip("abcde", counts) for _ in range(count)))
            self.assertEqual(how_many_outputs(program), self.many_of(*counts))
            sets = 1
            for count in counts:
                sets *= count + 1
            self.assertEqual(how_many_sets_seen(program), sets)
            self.assertEqual((fewest_changes(program), most_changes(program)), (len(counts) - 1, most))
            self.check_great(program)

    def test_with_flushes(self):
        for text in ("a b c !a b c a !b c a b !c", "a a b !a b b c !b c c", "a b c d e", "c !b b !a a d !c"):
            words = (text.split(" ") * 9)[:60]
            program = Program.of(" ".join(words))
            while self.sets_of(program) > 3000:
                words.pop()
                program = Program.of(" ".join(words))
            self.check_great(program)

    def sets_of(self, program):
        product = 1
        for stream in program.streams:
            product *= program.writes.count(stream) + 1
        return product

    def test_numbers_that_are_known(self):
        program = Program.of(" ".join(["a b"] * 30))
        self.assertEqual(how_many_outputs(program), comb(60, 30))
        a, b = (tuple((stream, number) for number in range(1, 31)) for stream in "ab")
        self.assertEqual(output_at(program, 0), a + b)
        self.assertEqual(output_at(program, comb(60, 30) - 1), b + a)
        self.assertEqual(output_at(program, comb(59, 29)), b[:1] + a + b[1:])
        self.assertEqual(number_of_output(program, b[:1] + a + b[1:]), comb(59, 29))
        self.assertEqual(outputs_behind(program, a[:7] + b[:9]), comb(44, 21))

    def test_two_streams_with_flushes(self):
        # The counts of both streams go through a grid: at each place only so far apart as the flushes let them.
        program = Program.of(" ".join(["a b a !a b !b"] * 9))
        grid = {(0, 0): 1}
        need = {"a": [], "b": []}
        written, out = {"a": 0, "b": 0}, {"a": 0, "b": 0}
        for word, stream in program.deeds:
            if word == "flush":
                out[stream] = written[stream]
            else:
                written[stream] += 1
                need[stream].append(out["b" if stream == "a" else "a"])
        for a in range(len(need["a"]) + 1):
            for b in range(len(need["b"]) + 1):
                if (a, b) != (0, 0):
                    by_a = grid[a - 1, b] if a and need["a"][a - 1] <= b else 0
                    by_b = grid[a, b - 1] if b and need["b"][b - 1] <= a else 0
                    grid[a, b] = by_a + by_b
        self.assertEqual(how_many_outputs(program), grid[18, 18])
        self.assertEqual(how_many_sets_seen(program), sum(1 for many in grid.values() if many))

    def test_many_lines_of_five_streams(self):
        program = Program.of(" ".join(["a b c d e"] * 12))
        lines = program.lines
        self.assertIs(is_output(program, lines), True)
        self.assertIs(is_output(program, tuple(sorted(lines))), True)
        self.assertEqual(next_lines(program, lines[:30]), tuple((stream, 7) for stream in "abcde"))
        self.assertEqual(last_lines(program), tuple((stream, 12) for stream in "abcde"))
        self.assertEqual(schedule(program, lines), tuple(range(1, 61)))
        self.assertEqual(schedule(program, tuple(sorted(lines)))[11:13], (56, 56))
        self.assertEqual(broken_at(program, lines[::-1]), (0, ("e", 1)))
        self.assertIs(is_schedule(program, lines, (60,) * 60), True)
        check_raises(self, NoStart(30), next_lines, program, lines[:30] + (("a", 8),))
        check_raises(self, NoOutput(), schedule, program, lines[::-1])

    def test_somewhat_beyond_the_bounds(self):
        program = Program.of(" ".join(["a b c d e f"] * 3))
        self.assertEqual(how_many_outputs(program), self.many_of(3, 3, 3, 3, 3, 3))
        long = Program.of(" ".join(["a b"] * 40))
        self.assertEqual(how_many_outputs(long), comb(80, 40))
        self.assertEqual(number_of_output(long, output_at(long, 10 ** 20)), 10 ** 20)


class GeneralRules(unittest.TestCase):
    def calls(self):
        order = (B, A, C)
        for program, own in ((FIRST, order), (Program(), ())):
            yield from ((ask, {"program": program}) for ask in (
                last_lines, how_many_outputs, how_many_sets_seen, fewest_changes, most_changes, with_fewest_changes))
            yield from ((ask, {"program": program, "thing": own}) for ask in (is_start, is_output))
            yield from ((ask, {"program": program, "lines": own[:2]}) for ask in (next_lines, outputs_behind))
            yield from ((ask, {"program": program, "order": own}) for ask in (broken_at, number_of_output))
            yield schedule, {"program": program, "output": own}
            yield is_schedule, {"program": program, "output": own, "thing": schedule(program, own)}
            yield output_at, {"program": program, "number": 0}
            yield changes_of, {"order": own}
        yield broken_at, {"program": FIRST, "order": (C, A, B)}
        yield number_of_output, {"program": FIRST, "order": (C, A, B)}
        yield is_start, {"program": FIRST, "thing": [A]}
        yield is_schedule, {"program": FIRST, "output": order, "thing": [2, 2, 4]}
        yield with_fewest_changes, {"program": Program.of("a a b b !c c")}

    def test_lists_for_tuples_names_and_the_same_call_again(self):
        for ask, named in self.calls():
            check_call(self, ask, named)

    def test_other_programs_in_between(self):
        programs = [Program.of(text) for text in ("a b c !a b", "c b a", "a !a b a !b c", "b b a a c")]
        asks = (with_fewest_changes, how_many_outputs, last_lines, lambda own: output_at(own, 1), fewest_changes,
                lambda own: schedule(own, output_at(own, 0)))
        answers = {(at, own): asks[at](programs[own]) for at in range(len(asks)) for own in range(len(programs))}
        for (at, own), answer in reversed(list(answers.items())):
            self.assertEqual(asks[at](Program(listed(programs[own].deeds))), answer)

    def test_kinds(self):
        for ask in (is_output, is_start):
            self.assertIs(type(ask(FIRST, (A, B, C))), bool)
        for worth in (next_lines(FIRST, ()), last_lines(FIRST), schedule(FIRST, [A, B, C]), output_at(FIRST, 0),
                      with_fewest_changes(FIRST), broken_at(FIRST, [C, B, A])):
            self.assertIs(type(worth), tuple)


if __name__ == "__main__":
    unittest.main()
