"""Numbers of tables [9]: edges, wrong inputs, great WRITES, and the general rules."""

import unittest
from fractions import Fraction
from math import comb

import brute
from asking import check_call, check_raises
from lateshown.errors import NoNumber, OtherWrites
from lateshown.numbers import (
    how_many_alike, how_many_between, how_many_looser, how_many_surer, how_many_tables, how_many_ways, mean_rank,
    nth_between, nth_table, of_flushes, of_ranks, share_with, table_number,
)
from lateshown.order import all_marks, bare, full, is_idle, join, lean, marks, meet, rank
from lateshown.programs import Program
from lateshown.tables import flushes_needed, table_of

WRITES = ("a", "a", "b", "b")
EARLY, LATE = Program.of("a !a a b b"), Program.of("a a b !a b")
OF_WRITES = (how_many_tables, of_ranks, of_flushes, mean_rank)
OF_A_PROGRAM = (table_number, how_many_surer, how_many_looser, how_many_alike)


class Edges(unittest.TestCase):
    def check_one_table(self, writes, flushes):
        """All functions, for WRITES without marks, with so many FLUSHes."""
        program = Program(brute.deeds_with(writes, brute.all_flushes(writes)))
        plain = bare(writes)
        self.assertEqual([ask(writes) for ask in OF_WRITES], [1, [1], [1], (0, 1)])
        self.assertEqual([ask(program) for ask in OF_A_PROGRAM], [0, 1, 1, 2 ** flushes])
        self.assertEqual((nth_table(writes, 0), nth_between(program, plain, 0)), (plain, plain))
        self.assertEqual((how_many_between(plain, program), how_many_ways(plain, program)), (1, 1))
        for number in (-1, 1, 10 ** 40):
            check_raises(self, NoNumber(number), nth_table, writes, number)
            check_raises(self, NoNumber(number), nth_between, plain, program, number)
        for flush in brute.all_flushes(writes):
            self.assertEqual(share_with(writes, flush), (0, 1))

    def test_no_writes(self):
        self.check_one_table((), 0)
        self.assertEqual(how_many_alike(Program.of("!a !b")), 1)

    def test_one_stream_only(self):
        for many in (1, 2, 5, 30):
            self.check_one_table(("abc",) * many, many + 1)

    def test_streams_without_lines_are_none_of_the_flushes(self):
        self.assertEqual(how_many_alike(Program.of("!z a !a !z a b !z b !c")), how_many_alike(EARLY))
        self.assertEqual(table_number(Program.of("!z a !a !z a b !z b !c")), 2)

    def test_two_lines(self):
        for writes in (("a", "b"), ("b", "a")):
            flush = (1, writes[0])
            self.assertEqual([ask(writes) for ask in OF_WRITES], [2, [1, 1], [1, 1], (1, 2)])
            self.assertEqual((share_with(writes, flush), share_with(writes, (1, writes[1]))), ((1, 2), (0, 1)))
            self.assertEqual([how_many_alike(own) for own in (bare(writes), full(writes))], [32, 32])
            self.assertEqual([nth_table(writes, number) for number in range(2)], [bare(writes), full(writes)])

    def test_streams_come_ahead_of_moments(self):
        # By moments alone the flush of b, which can stand at moment 1, would come first.
        writes = ("b", "a", "c")
        self.assertEqual(all_marks(writes), ((1, "b"), (2, "a"), (2, "b")))
        self.assertEqual([marks(nth_table(writes, number)) for number in range(6)], [
            (), ((2, "b"),), ((1, "b"), (2, "b")), ((2, "a"),), ((2, "a"), (2, "b")), all_marks(writes)])

    def test_moments_come_as_numbers(self):
        writes = ("a",) * 9 + ("b",) * 5
        self.assertEqual(marks(nth_table(writes, 1)), ((13, "a"),))
        self.assertEqual(marks(nth_table(writes, 5)), ((1, "a"),))
        self.assertEqual(table_number(with_flush(writes, 10)), 4)

    def test_the_bare_one_is_first_and_the_full_one_last(self):
        for writes in (WRITES, ("a", "b", "c"), ("c", "a", "b", "a", "c")):
            self.assertEqual((table_number(bare(writes)), table_number(full(writes))), (0, how_many_tables(writes) - 1))

    def test_none_between(self):
        for one, other in ((EARLY, LATE), (full(WRITES), EARLY), (LATE, bare(WRITES))):
            self.assertEqual(how_many_between(one, other), 0)
            for number in (-1, 0, 1):
                check_raises(self, NoNumber(number), nth_between, one, other, number)

    def test_a_program_and_itself(self):
        for program in (EARLY, LATE, bare(WRITES), full(WRITES), Program.of("!a a !a a !b b b")):
            self.assertEqual((how_many_between(program, program), how_many_ways(program, program)), (1, 1))
            self.assertEqual(nth_between(program, program, 0), lean(program))

    def test_marks_that_go_and_marks_that_come(self):
        # The four marks of a go one after another, the two of b come one after another, by turns as one likes.
        one, other = Program.of("a !a b c c b"), Program.of("a b !b c c b")
        self.assertEqual((marks(one), marks(other)),
                         (((1, "a"), (2, "a"), (3, "a"), (4, "a")), ((2, "b"), (3, "b"))))
        self.assertEqual((how_many_ways(one, other), how_many_ways(other, one)), (comb(6, 2), comb(6, 2)))


def with_flush(writes, moment):
    return Program(brute.deeds_with(writes, ((moment, "a"),)))


class WrongInputs(unittest.TestCase):
    def test_no_number(self):
        for number in (-1, 5, 6, 10 ** 40, -5):
            check_raises(self, NoNumber(number), nth_table, WRITES, number)
        for number in (-1, 3, 10 ** 40):
            check_raises(self, NoNumber(number), nth_between, EARLY, full(WRITES), number)

    def test_other_writes_are_told_ahead_of_numbers(self):
        for other in (Program.of("a b"), Program(), Program.of("a b a b")):
            for ask in (how_many_between, how_many_ways):
                check_raises(self, OtherWrites(), ask, EARLY, other)
                check_raises(self, OtherWrites(), ask, other, EARLY)
            for number in (-1, 0, 10 ** 40):
                check_raises(self, OtherWrites(), nth_between, EARLY, other, number)
                check_raises(self, OtherWrites(), nth_between, other, EARLY, number)


class Great(unittest.TestCase):
    def numbers_of(self, many):
        return sorted({0, 1, many // 7, many // 2, many - many // 3, many - 2, many - 1} - {-1, many})

    def test_there_and_back(self):
        for writes in brute.GREAT_WRITES:
            many = how_many_tables(writes)
            last = None
            for number in self.numbers_of(many):
                program = nth_table(writes, number)
                self.assertEqual(program.writes, writes)
                self.assertEqual(lean(program), program)
                self.assertEqual(table_number(program), number)
                key = [mark in marks(program) for mark in sorted(all_marks(writes), key=lambda own: (own[1], own[0]))]
                self.assertTrue(last is None or last < key)
                last = key
            check_raises(self, NoNumber(many), nth_table, writes, many)
            check_raises(self, NoNumber(-many), nth_table, writes, -many)

    def test_sums(self):
        for writes in brute.GREAT_WRITES:
            many = how_many_tables(writes)
            ranks, flushes = of_ranks(writes), of_flushes(writes)
            self.assertEqual((sum(ranks), sum(flushes)), (many, many))
            self.assertEqual((len(ranks) - 1, ranks[0], ranks[-1]), (len(all_marks(writes)), 1, 1))
            self.assertEqual((flushes[0], flushes[1]), (1, len(all_marks(writes))))
            self.assertTrue(flushes[-1] > 0)
            mean = Fraction(sum(number * count for number, count in enumerate(ranks)), many)
            self.assertEqual(mean_rank(writes), (mean.numerator, mean.denominator))
            # The mean number of marks is the sum of the shares of all marks.
            shares = [Fraction(*share_with(writes, flush)) for flush in brute.all_flushes(writes)]
            self.assertEqual(sum(shares), mean)
            for flush, share in zip(brute.all_flushes(writes), shares):
                self.assertEqual(share == 0, is_idle(writes, flush))
                self.assertTrue(share < 1)

    def test_tables_of_one_stream_alone(self):
        # The marks of unlike streams do not touch: the tables are as many as the product over the streams.
        for writes in brute.GREAT_WRITES:
            product = 1
            for stream in sorted(set(writes)):
                # Lines of other streams alike, so that just this one has lines to be flushed.
                alone = tuple(own if own == stream else "z" for own in writes)
                product *= self.sets_of_marks(alone, stream)
            self.assertEqual(how_many_tables(writes), product)

    def sets_of_marks(self, writes, stream):
        """How many sets of marks of the stream have all marks below each of theirs, mark by mark from the left."""
        owned = [mark for mark in all_marks(writes) if mark[1] == stream]
        many = {None: 1}
        for moment, _ in owned:
            after = {False: 0, True: 0}
            for last, count in many.items():
                for inside in (False, True):
                    up = writes[moment - 1] == stream
                    if last is None or not (up and inside and not last or not up and last and not inside):
                        after[inside] += count
            many = after
        return sum(many.values())

    def test_tables_between(self):
        for writes in brute.GREAT_WRITES:
            flushes = brute.all_flushes(writes)
            one = Program(brute.deeds_with(writes, flushes[7::31]))
            other = join(one, Program(brute.deeds_with(writes, flushes[3::11])))
            many = how_many_between(one, other)
            self.assertTrue(many >= 1)
            for number in self.numbers_of(many):
                program = nth_between(one, other, number)
                self.assertTrue(set(marks(one)) <= set(marks(program)) <= set(marks(other)))
                lower = how_many_between(one, program)
                self.assertTrue(1 <= lower <= many)
            self.assertEqual((nth_between(one, other, 0), nth_between(one, other, many - 1)), (lean(one), other))
            check_raises(self, NoNumber(many), nth_between, one, other, many)
            self.assertEqual(how_many_between(bare(writes), full(writes)), how_many_tables(writes))
            self.assertEqual(how_many_surer(one), how_many_between(one, full(writes)))
            self.assertEqual(how_many_looser(other), how_many_between(bare(writes), other))
            self.assertEqual((how_many_surer(bare(writes)), how_many_looser(full(writes))), (how_many_tables(writes),) * 2)
            self.assertEqual((how_many_surer(full(writes)), how_many_looser(bare(writes))), (1, 1))
            if set(marks(other)) - set(marks(one)):
                self.assertEqual(how_many_between(other, one), 0)

    def test_numbers_of_all_between_ascend(self):
        writes = brute.GREAT_WRITES[0]
        numbered = nth_table(writes, how_many_tables(writes) // 3)
        top = numbered
        while how_many_between(numbered, top) < 200:
            lacking = [mark for mark in all_marks(writes) if mark not in marks(top)]
            top = Program(brute.deeds_with(writes, (*marks(top), lacking[0])))
        many = how_many_between(numbered, top)
        numbers = [table_number(nth_between(numbered, top, number)) for number in range(many)]
        self.assertEqual(numbers, sorted(set(numbers)))
        self.assertEqual((numbers[0], numbers[-1]), (table_number(numbered), table_number(top)))

    def test_ways(self):
        for writes in brute.GREAT_WRITES:
            nothing, everything = bare(writes), full(writes)
            self.assertEqual(how_many_ways(nothing, everything), how_many_ways(everything, nothing))
            flushes = brute.all_flushes(writes)
            one = Program(brute.deeds_with(writes, flushes[5::17]))
            other = Program(brute.deeds_with(writes, flushes[2::13]))
            low = meet(one, other)
            # What goes and what comes do not touch: both in their own orders, by turns as one likes.
            down, up = rank(one) - rank(low), rank(other) - rank(low)
            self.assertEqual(how_many_ways(one, other),
                             comb(down + up, down) * how_many_ways(one, low) * how_many_ways(low, other))
        steps = tuple("a" * 15 + "b" * 15)
        # Marks 1 to 15 stand one above another, and so do 29 to 15.
        self.assertEqual(how_many_ways(bare(steps), full(steps)), comb(28, 14))

    def test_sets_of_flushes_that_are_alike(self):
        for writes in brute.GREAT_WRITES:
            marked = len(all_marks(writes))
            idle = len(brute.all_flushes(writes)) - marked
            self.assertEqual(how_many_alike(bare(writes)), 2 ** idle)
            needed = flushes_needed(table_of(full(writes)))
            self.assertEqual(how_many_alike(full(writes)), 2 ** (idle + marked - needed))
        small = ("a", "b", "a", "c", "b")
        self.assertEqual(sum(how_many_alike(nth_table(small, number)) for number in range(how_many_tables(small))),
                         2 ** len(brute.all_flushes(small)))


class GeneralRules(unittest.TestCase):
    def calls(self):
        for writes in ((), WRITES, ("e", "o", "o", "e", "x")):
            yield from ((ask, {"writes": writes}) for ask in OF_WRITES)
            yield nth_table, {"writes": writes, "number": 0}
            yield from ((share_with, {"writes": writes, "flush": flush}) for flush in brute.all_flushes(writes))
        programs = (EARLY, LATE, bare(WRITES), full(WRITES), Program.of("!a a a !b b !a b"))
        for one in programs:
            yield from ((ask, {"program": one}) for ask in OF_A_PROGRAM)
            for other in programs:
                yield from ((ask, {"one": one, "other": other}) for ask in (how_many_between, how_many_ways))
            yield nth_between, {"one": bare(WRITES), "other": one, "number": 0}

    def test_lists_for_tuples_names_and_the_same_call_again(self):
        for ask, named in self.calls():
            check_call(self, ask, named)

    def test_kinds(self):
        for answer in (mean_rank(WRITES), share_with(WRITES, (1, "a")), share_with(list(WRITES), [4, "a"])):
            self.assertIs(type(answer), tuple)
        for answer in (of_ranks(WRITES), of_flushes(WRITES)):
            self.assertIs(type(answer), list)
        for number in (*of_ranks(WRITES), *of_flushes(WRITES), how_many_tables(WRITES), table_number(EARLY),
                       how_many_surer(LATE), how_many_alike(LATE), how_many_ways(EARLY, LATE)):
            self.assertIs(type(number), int)


if __name__ == "__main__":
    unittest.main()
