"""What is sure [5], held against all habits of the streams."""

import unittest
from itertools import permutations, product

import brute
from lateshown.programs import Program
from lateshown.tables import (
    alike, bar, flushes_needed, in_moment, is_bar, is_rows, is_sure, is_table, lost_pair, moments, program_of,
    table_of, unsure_pairs, within,
)


def small_deeds():
    """The DEEDs of all small Programs of two streams and of three."""
    yield from brute.all_deeds("ab", 6)
    yield from brute.all_deeds("abc", 4)
    for counts in ({"a": 1, "b": 1, "c": 1}, {"a": 2, "b": 1, "c": 1}):
        yield from brute.programs_with(counts)


class Programs(unittest.TestCase):
    def test_tables_sure_lines_and_unsure_pairs(self):
        known = {}
        for deeds in small_deeds():
            program = Program(deeds)
            seen = brute.outputs(deeds)
            table = table_of(program)
            if seen not in known:
                known[seen] = table
                self.check_sure(program, seen, table)
            self.assertEqual(table, known[seen], program.text)
        self.assertEqual(len(set(known.values())), len(known))

    def check_sure(self, program, seen, table):
        self.assertEqual(table, brute.table(seen), program.text)
        sure = brute.sure_pairs(seen)
        for one, other in product(program.lines, repeat=2):
            self.assertEqual(is_sure(table, one, other), (one, other) in sure)
        lines = sorted(program.lines)
        self.assertEqual(unsure_pairs(program), [
            (one, other) for one, other in product(lines, repeat=2)
            if one < other and (one, other) not in sure and (other, one) not in sure])
        orders = {order for order in permutations(lines) if self.keeps(order, sure)}
        self.assertEqual(seen, orders, program.text)

    def keeps(self, order, sure):
        at = {line: place for place, line in enumerate(order)}
        return all(at[one] < at[other] for one, other in sure)

    def test_each_two_programs_with_few_deeds(self):
        known = {deeds: brute.outputs(deeds) for deeds in brute.all_deeds("ab", 3)}
        for (one, ones), (other, others) in product(known.items(), repeat=2):
            self.check_two(Program(one), ones, Program(other), others)

    def test_two_programs_with_the_same_lines(self):
        for counts in ({"a": 2, "b": 2}, {"a": 3, "b": 1}, {"a": 1, "b": 1, "c": 1}):
            known = {}
            for deeds in brute.programs_with(counts):
                known.setdefault(brute.outputs(deeds), []).append(deeds)
            for (ones, first), (others, second) in product(known.items(), repeat=2):
                self.check_two(Program(first[0]), ones, Program(second[-1]), others)

    def check_two(self, one, ones, other, others):
        self.assertIs(alike(one, other), ones == others)
        self.assertIs(within(one, other), ones <= others)
        if sorted(one.lines) != sorted(other.lines):
            return
        lost = lost_pair(one, other)
        if ones <= others:
            self.assertIsNone(lost)
        else:
            self.assertIn(lost, brute.sure_pairs(others))
            self.assertNotIn(lost, brute.sure_pairs(ones))


class Tables(unittest.TestCase):
    SHAPES = ({}, {"a": 3}, {"a": 1, "b": 1}, {"a": 2, "b": 1}, {"a": 2, "b": 2}, {"a": 3, "b": 2}, {"a": 4, "b": 1},
              {"a": 1, "b": 1, "c": 1}, {"a": 2, "b": 1, "c": 1})

    def fewest_flushes(self, counts):
        """Of the TABLEs of all Programs with so many lines, the least number of flushes."""
        known, fewest = {}, {}
        for deeds in brute.programs_with(counts):
            seen = brute.outputs(deeds)
            if seen not in known:
                known[seen] = brute.table(seen)
            many = sum(1 for word, _ in deeds if word == "flush")
            fewest[known[seen]] = min(many, fewest.get(known[seen], many))
        return fewest

    def test_all_rows_are_told_apart(self):
        for counts in self.SHAPES:
            fewest = self.fewest_flushes(counts)
            many = 0
            for rows in brute.all_rows(counts):
                self.assertTrue(is_rows(rows))
                self.assertIs(is_table(rows), rows in fewest, rows)
                if rows in fewest:
                    many += 1
                    self.check_table(rows, fewest[rows])
                else:
                    self.check_no_table(rows)
            self.assertEqual(many, len(fewest))

    def check_table(self, table, fewest):
        self.assertIsNone(bar(table))
        program = program_of(table)
        self.assertEqual(brute.table(brute.outputs(program.deeds)), table)
        self.assertEqual(sum(1 for word, _ in program.deeds if word == "flush"), fewest)
        self.assertEqual(flushes_needed(table), fewest)

    def check_no_table(self, rows):
        self.assertIsNone(program_of(rows))
        self.assertIs(is_bar(rows, bar(rows)), True)
        self.assertTrue(brute.shows_no_table(rows, *bar(rows)))

    def test_moments_and_what_is_in_them(self):
        for counts in self.SHAPES:
            for rows in brute.all_rows(counts):
                self.assertEqual(moments(rows), tuple(sorted(brute.all_moments(rows))))
                for moment in moments(rows):
                    inside = {line for line, _ in rows if in_moment(rows, moment, line)}
                    self.assertEqual(inside, brute.lines_in(rows, moment))

    def test_bars_are_just_those_that_the_document_tells(self):
        for counts in ({"a": 2, "b": 2}, {"a": 1, "b": 1, "c": 1}):
            for rows in brute.all_rows(counts):
                found = brute.all_moments(rows)
                lines = [line for line, _ in rows]
                bars = set()
                for told in product(lines, repeat=4):
                    fit = told[0] in found and told[1] in found and brute.shows_no_table(rows, *told)
                    self.assertIs(is_bar(rows, told), fit)
                    if fit:
                        bars.add(told)
                self.assertEqual(bars == set(), bar(rows) is None)

    def test_greater_rows(self):
        for rows in brute.all_rows({"a": 3, "b": 3}):
            shown = bar(rows)
            if shown is None:
                self.assertEqual(brute.table(brute.outputs(program_of(rows).deeds)), rows)
            else:
                self.assertTrue(brute.shows_no_table(rows, *shown))


if __name__ == "__main__":
    unittest.main()
