"""Marks and numbers of tables [8], [9], held against all TABLEs that come of one FLUSH more again and again."""

import unittest
from fractions import Fraction
from itertools import combinations, product

import brute
from lateshown import numbers, order
from lateshown.errors import NoNumber
from lateshown.programs import WRITE, Program
from lateshown.tables import flushes_needed, table_of


def by_outputs(deeds):
    """The TABLE of the DEEDs, by all habits."""
    return brute.table(brute.outputs(deeds))


def by_table(deeds):
    return table_of(Program(deeds))


def short_writes(longest, names):
    for many in range(longest + 1):
        for writes in product(names, repeat=many):
            # Other names in another order of their first lines are another case; other names alone are not.
            if sorted(set(writes)) == list(names[:len(set(writes))]):
                yield writes


def flushes_in(program):
    flushes, moment = [], 0
    for word, stream in program.deeds:
        if word == WRITE:
            moment += 1
        else:
            flushes.append((moment, stream))
    return flushes


class Tables:
    """All TABLEs of WRITES, by their marks: the Programs that came first, and the marks below each mark."""

    def __init__(self, writes, tell):
        self.writes = writes
        self.found = {}
        self.tables = {}
        for table, (flushes, owned) in brute.tables_with(writes, tell).items():
            self.found[owned] = Program(brute.deeds_with(writes, flushes))
            self.tables[owned] = table
        self.all = max(self.found, key=len)
        self.below = {mark: brute.marks_below(writes, mark) for mark in self.all}

    def tops(self, owned):
        return [mark for mark in sorted(owned) if not any(mark in self.below[other] for other in owned)]

    def lean(self, owned):
        """The lean Program with these marks."""
        return Program(brute.deeds_with(self.writes, self.tops(owned)))

    def place(self, owned):
        """What tells which TABLE comes first: that which lacks the first mark that just one has."""
        return tuple(mark in owned for mark in sorted(self.all, key=lambda mark: (mark[1], mark[0])))

    def neighbours(self, owned):
        return [other for other in self.found if len(other ^ owned) == 1]


class Base(unittest.TestCase):
    def each(self, longest, names, tell):
        for writes in short_writes(longest, names):
            yield Tables(writes, tell)


class Marks(Base):
    def test_by_all_habits(self):
        for names in ("ab", "abc"):
            for told in self.each(4, names, by_outputs):
                self.check_marks(told)

    def test_by_tables(self):
        for names in ("ab", "abcd"):
            for told in self.each(6 if names == "ab" else 5, names, by_table):
                self.check_marks(told)

    def check_marks(self, told):
        writes = told.writes
        self.assertEqual(len(told.found), len(told.tables))
        self.assertEqual(order.all_marks(writes), tuple(sorted(told.all)))
        for flush in brute.all_flushes(writes):
            self.assertIs(order.is_idle(writes, flush), brute.is_no_mark(writes, flush))
            self.assertEqual(order.is_idle(writes, flush), flush not in told.all)
        for owned, program in told.found.items():
            self.assertEqual(order.marks(program), tuple(sorted(owned)))
            self.assertEqual(order.rank(program), len(owned))
            self.assertEqual(order.lean(program), told.lean(owned))
            self.assertEqual(table_of(order.lean(program)), told.tables[owned])
            self.assertEqual(len(flushes_in(told.lean(owned))), flushes_needed(told.tables[owned]))
            for flush in brute.all_flushes(writes):
                self.assertIs(order.has_mark(program, flush), flush in owned)
        self.assertEqual(order.bare(writes), told.lean(frozenset()))
        self.assertEqual(order.full(writes), told.lean(told.all))

    def test_one_mark_more_and_one_less(self):
        for told in self.each(5, "abc", by_table):
            for owned, program in told.found.items():
                others = told.neighbours(owned)
                more = sorted((sorted(other - owned), other) for other in others if other > owned)
                less = sorted((sorted(owned - other), other) for other in others if other < owned)
                self.assertEqual(order.above(program), [told.lean(other) for _, other in more])
                self.assertEqual(order.below(program), [told.lean(other) for _, other in less])

    def test_sets_of_flushes(self):
        for told in self.each(4, "abc", by_table):
            flushes = brute.all_flushes(told.writes)
            for many in range(3):
                for some in combinations(flushes[::-1], many):
                    least = {mark for mark in some if mark in told.all}
                    fit = [owned for owned in told.found if owned >= least]
                    self.assertEqual(order.with_marks(told.writes, some + some[:1]), told.lean(min(fit, key=len)))

    def test_outputs_against_marks(self):
        for told in self.each(4, "abc", by_table):
            for owned, program in told.found.items():
                seen = brute.outputs(program.deeds)
                for flush in brute.all_flushes(told.writes):
                    out = order.output_against(program, flush)
                    if flush in owned or flush not in told.all:
                        self.assertIsNone(out)
                    else:
                        self.assertIn(out, seen)
                        for other, own in told.found.items():
                            self.assertFalse(flush in other and out in brute.outputs(own.deeds))


class TwoPrograms(Base):
    def test_two(self):
        for names in ("ab", "abc"):
            for told in self.each(4, names, by_table):
                for one, other in product(told.found, repeat=2):
                    self.check_two(told, one, other)

    def check_two(self, told, one, other):
        first, second = told.found[one], told.found[other]
        self.assertEqual(order.join(first, second), told.lean(one | other))
        self.assertEqual(order.meet(first, second), told.lean(one & other))
        least = [owned for owned in told.found if owned | other >= one]
        self.assertEqual(order.rest(first, second), told.lean(min(least, key=len)))
        most = [owned for owned in told.found if owned & one <= other]
        self.assertEqual(order.allowed(first, second), told.lean(max(most, key=len)))
        self.assertEqual(order.distance(first, second), len(one ^ other))
        self.assertEqual(order.parting_mark(first, second), min(one ^ other, default=None))
        self.assertEqual(order.standing(first, second), self.standing(one, other))
        between = sorted((owned for owned in told.found if one <= owned <= other), key=told.place)
        self.assertEqual(numbers.how_many_between(first, second), len(between))
        for number, owned in enumerate(between):
            self.assertEqual(numbers.nth_between(first, second, number), told.lean(owned))
        for number in (-1, len(between)):
            with self.assertRaises(NoNumber):
                numbers.nth_between(first, second, number)

    def standing(self, one, other):
        if one == other:
            return "alike"
        return "surer" if one > other else "looser" if one < other else "apart"

    def test_ways(self):
        for names in ("ab", "abc"):
            for told in self.each(4, names, by_table):
                for one in told.found:
                    self.check_ways(told, one)

    def check_ways(self, told, one):
        far, ways, new = {one: 0}, {one: 1}, [one]
        for owned in new:
            for after in told.neighbours(owned):
                if after not in far:
                    far[after], ways[after] = far[owned] + 1, 0
                    new.append(after)
                if far[after] == far[owned] + 1:
                    ways[after] += ways[owned]
        self.assertEqual(set(far), set(told.found))
        for other, many in ways.items():
            first, second = told.found[one], told.found[other]
            self.assertEqual(numbers.how_many_ways(first, second), many)
            programs = order.way(first, second)
            rows = [frozenset(order.marks(program)) for program in programs]
            self.assertEqual((rows[0], rows[-1], len(rows)), (one, other, far[other] + 1))
            self.assertTrue(all(len(fewer ^ more) == 1 for fewer, more in zip(rows, rows[1:])))
            self.assertEqual(programs, [told.lean(owned) for owned in rows])
            self.assertIs(order.is_way(first, second, programs), True)
            self.assertIs(order.is_way(first, second, [told.found[owned] for owned in rows]), True)

    def test_what_is_no_way(self):
        for writes in ("aab", "abab", "abc"):
            told = Tables(tuple(writes), by_table)
            for one, other in product(told.found, repeat=2):
                for many in range(4):
                    for row in product(told.found, repeat=many):
                        fit = (many == len(one ^ other) + 1 and row[0] == one and row[-1] == other
                               and all(len(fewer ^ more) == 1 for fewer, more in zip(row, row[1:])))
                        programs = [told.found[owned] for owned in row]
                        self.assertIs(order.is_way(told.found[one], told.found[other], programs), fit)

    def test_three(self):
        for writes in ("aabb", "abab", "abca", "abcb"):
            told = Tables(tuple(writes), by_table)
            for three in product(told.found, repeat=3):
                one, other, third = three
                owned = one & other | one & third | other & third
                self.assertEqual(order.middle(*[told.found[own] for own in three]), told.lean(owned))


class Numbers(Base):
    def test_all_tables(self):
        for names in ("ab", "abcd"):
            for told in self.each(6 if names == "ab" else 5, names, by_table):
                self.check_numbers(told)
                self.check_sums(told)

    def check_numbers(self, told):
        writes = told.writes
        rows = sorted(told.found, key=told.place)
        self.assertEqual(numbers.how_many_tables(writes), len(rows))
        self.assertEqual([numbers.nth_table(writes, number) for number in range(len(rows))],
                         [told.lean(owned) for owned in rows])
        self.assertEqual([numbers.table_number(told.found[owned]) for owned in rows], list(range(len(rows))))
        for number in (-1, len(rows)):
            with self.assertRaises(NoNumber):
                numbers.nth_table(writes, number)
        for owned, program in told.found.items():
            self.assertEqual(numbers.how_many_surer(program), sum(other >= owned for other in rows))
            self.assertEqual(numbers.how_many_looser(program), sum(other <= owned for other in rows))

    def check_sums(self, told):
        ranks = [len(owned) for owned in told.found]
        self.assertEqual(numbers.of_ranks(told.writes), [ranks.count(own) for own in range(len(told.all) + 1)])
        needed = [flushes_needed(table) for table in told.tables.values()]
        self.assertEqual(numbers.of_flushes(told.writes), [needed.count(own) for own in range(max(needed) + 1)])
        mean = Fraction(sum(ranks), len(ranks))
        self.assertEqual(numbers.mean_rank(told.writes), (mean.numerator, mean.denominator))
        for flush in brute.all_flushes(told.writes):
            share = Fraction(sum(flush in owned for owned in told.found), len(told.found))
            self.assertEqual(numbers.share_with(told.writes, flush), (share.numerator, share.denominator))

    def test_sets_of_flushes_that_are_alike(self):
        for names, longest in (("ab", 4), ("abc", 3)):
            for writes in short_writes(longest, names):
                many = {}
                flushes = brute.all_flushes(writes)
                for taken in product((False, True), repeat=len(flushes)):
                    deeds = brute.deeds_with(writes, [flush for flush, own in zip(flushes, taken) if own])
                    table = by_table(deeds)
                    many[table] = many.get(table, 0) + 1
                for owned, table in Tables(writes, by_table).tables.items():
                    program = Program(brute.deeds_with(writes, sorted(owned) + [(0, own) for own in sorted(set(writes))]))
                    self.assertEqual(table_of(program), table)
                    self.assertEqual(numbers.how_many_alike(program), many[table])


class Longer(Base):
    def test_longer_writes(self):
        for writes in ("abbaaabab", "aaabbbccab", "abcabcab", "aabbccdde"):
            told = Tables(tuple(writes), by_table)
            numbered = Numbers()
            numbered.check_sums(told)
            rows = sorted(told.found, key=told.place)
            self.assertEqual(numbers.how_many_tables(told.writes), len(rows))
            for number in range(0, len(rows), 7):
                self.assertEqual(numbers.nth_table(told.writes, number), told.lean(rows[number]))
                self.assertEqual(numbers.table_number(told.found[rows[number]]), number)
                self.assertEqual(order.marks(told.found[rows[number]]), tuple(sorted(rows[number])))
            for one, other in product(rows[::len(rows) // 5], repeat=2):
                TwoPrograms().check_two(told, one, other)


if __name__ == "__main__":
    unittest.main()
