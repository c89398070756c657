"""What is sure [5]: examples, edges, wrong inputs."""

import unittest

from asking import has_lists, listed
from lateshown.errors import NoLine, OtherLines
from lateshown.programs import Program
from lateshown.tables import (
    alike, bar, flushes_needed, in_moment, is_bar, is_rows, is_sure, is_table, lost_pair, moments, number_in,
    program_of, table_of, unsure_pairs, within,
)

FIRST, SECOND = Program.of("a b !a b"), Program.of("a !a b b")
TABLE = table_of(FIRST)
# No TABLE: neither of the two flushes can be the first.
ROWS = ((("a", 1), ()), (("a", 2), ()), (("a", 3), (("b", 1),)), (("b", 1), ()), (("b", 2), ()), (("b", 3), (("a", 1),)))
# No TABLE: the second line of b is written ahead of the flush, the first one behind it.
GAP = ((("a", 1), ()), (("b", 1), (("a", 1),)), (("b", 2), ()))
THINGS = (None, True, False, 0, 1, "", "a", Program(), FIRST, [], (None,), (True,), (1,), ("a",), ((),), ((), ()),
          (((), ()),), ((("a", 1),),), (("a", 1),), ("a", 1), [("a", 1), ()], FIRST.lines, FIRST.deeds)


class Examples(unittest.TestCase):
    def test_tables(self):
        self.assertEqual(
            (table_of(FIRST), table_of(SECOND)),
            (((("a", 1), ()), (("b", 1), ()), (("b", 2), (("a", 1),))),
             ((("a", 1), ()), (("b", 1), (("a", 1),)), (("b", 2), (("a", 1),)))))

    def test_two_programs(self):
        self.assertEqual(
            (alike(FIRST, SECOND), within(SECOND, FIRST), within(FIRST, SECOND),
             alike(FIRST, Program.of("b a !a !a b !b")), lost_pair(FIRST, SECOND), lost_pair(SECOND, FIRST)),
            (False, True, False, True, (("a", 1), ("b", 1)), None))

    def test_numbers(self):
        self.assertEqual(
            (number_in(TABLE, ("b", 2), "a"), number_in(TABLE, ("a", 1), "b"), is_sure(TABLE, ("a", 1), ("b", 2)),
             is_sure(TABLE, ("b", 1), ("b", 2)), is_sure(TABLE, ("a", 1), ("b", 1))), (1, 0, True, True, False))

    def test_moments(self):
        self.assertEqual(
            (moments(TABLE), [in_moment(TABLE, ("a", 1), line) for line in FIRST.lines], flushes_needed(TABLE),
             unsure_pairs(FIRST)), ((("a", 1),), [True, True, False], 1, [(("a", 1), ("b", 1))]))

    def test_programs(self):
        self.assertIn(program_of(TABLE).text, ("a b !a b", "b a !a b"))
        self.assertEqual(flushes_needed(table_of(Program.of("!a a !a !a b b !a"))), 1)

    def test_rows(self):
        self.assertEqual(
            (is_rows(ROWS), is_table(ROWS), program_of(ROWS), is_bar(ROWS, bar(ROWS)),
             is_bar(ROWS, (("a", 1), ("b", 1), ("b", 2), ("a", 2)))), (True, False, None, True, True))
        self.assertEqual((is_rows(((("a", 2), ()),)), is_table(()), is_table(TABLE[:2])), (False, True, True))

    def test_errors(self):
        with self.assertRaises(NoLine) as caught:
            is_sure(TABLE, ("a", 1), ("c", 1))
        self.assertEqual(caught.exception.line, ("c", 1))
        with self.assertRaises(OtherLines):
            lost_pair(FIRST, Program.of("a"))


class WhatAreRows(unittest.TestCase):
    def test_rows(self):
        for rows in ((), TABLE, ROWS, GAP, TABLE[:2], TABLE[:1], ((("abcdefgh", 1), ()),)):
            self.assertIs(is_rows(rows), True, rows)

    def test_no_rows(self):
        one, two, other = (("a", 1), ()), (("a", 2), ()), (("b", 1), ())
        wrong = [
            (two,), (two, one), (one, one), (other, one), (one, other, two), (one, (("a", 3), ())), ((("a", 0), ()), one),
            (one, (("A", 1), ())), (one, (("", 1), ())), (one, ("b", ())), (one, ("b", 1)), (one, (("b", 1),)),
            (one, (("b", 1), (), ())), (one, (("b", 1), None)), (one, (("b", True), ())), ((("a", True), ()),),
            (one, (("b", 1), ("a", 1))), (one, (("b", 1), (("a", 0),))), (one, (("b", 1), (("a", -1),))),
            (one, (("b", 1), (("a", 2),))), (one, (("b", 1), (("a", True),))), (one, (("b", 1), (("b", 1),))),
            (one, (("b", 1), (("c", 1),))), (one, (("b", 1), (("a", 1), ("a", 1)))), (one, (("b", 1), (("a", "1"),))),
            (one, two, (("b", 1), (("a", 1), ("a", 2)))), (one, two, (("b", 1), (("a", 2), ("a", 1)))),
            (one, other, (("c", 1), (("b", 1), ("a", 1)))), (one, (("b", 1), (("a", 1, 1),))),
            (one, (("b", 1), (("a", 1), ()))), (one, (("b", 1), (("a", Program()),))), (one, Program()),
            ((("a", 1), ()), (("a", 1), ()), (("a", 2), ())), (one, (("a", 1), (("b", 1),)), other),
        ]
        for thing in (*wrong, *THINGS):
            self.assertIs(is_rows(thing), False, thing)
            self.assertIs(is_table(thing), False, thing)

    def test_a_list_within_is_wrong_wherever_it_stands(self):
        rows = ((("a", 1), ()), (("b", 1), (("a", 1),)))
        self.assertTrue(is_table(rows))
        for thing in (
            list(rows), (list(rows[0]), rows[1]), ((["a", 1], ()), rows[1]), ((("a", 1), []), rows[1]),
            (rows[0], (("b", 1), [("a", 1)])), (rows[0], (("b", 1), (["a", 1],))),
        ):
            self.assertIs(is_rows(thing), False, thing)
            self.assertIs(is_table(thing), False, thing)

    def test_at_most_five_streams_and_sixty_lines(self):
        five = tuple(((stream, 1), ()) for stream in "abcde")
        self.assertIs(is_rows(five), True)
        self.assertIs(is_rows(five + ((("f", 1), ()),)), False)
        sixty = tuple(((stream, number), ()) for stream in "ab" for number in range(1, 31))
        self.assertIs(is_rows(sixty), True)
        self.assertIs(is_rows(sixty + ((("b", 31), ()),)), False)

    def test_great_numbers(self):
        self.assertIs(is_rows(((("a", 10 ** 50), ()),)), False)
        self.assertIs(is_rows(((("a", 1), ()), (("b", 1), (("a", 10 ** 50),)))), False)

    def test_no_table(self):
        for rows in (ROWS, GAP):
            self.assertIs(is_table(rows), False)
            self.assertIsNone(program_of(rows))
            self.assertIs(is_bar(rows, bar(rows)), True)


class WhatIsSure(unittest.TestCase):
    def test_lines_that_are_not_there(self):
        for line in (("a", 2), ("a", 0), ("a", -1), ("c", 1), ("b", 10 ** 40)):
            for given in (line, list(line)):
                for ask in (lambda: number_in(TABLE, given, "a"), lambda: is_sure(TABLE, given, ("a", 1)),
                            lambda: is_sure(TABLE, ("a", 1), given), lambda: is_sure(TABLE, given, ("z", 1)),
                            lambda: in_moment(TABLE, ("a", 1), given)):
                    with self.assertRaises(NoLine) as caught:
                        ask()
                    self.assertEqual(caught.exception.line, line)
                    self.assertIs(type(caught.exception.line), tuple)

    def test_one_is_asked_ahead_of_other(self):
        with self.assertRaises(NoLine) as caught:
            is_sure(TABLE, ("y", 1), ("x", 1))
        self.assertEqual(caught.exception.line, ("y", 1))

    def test_a_line_and_itself(self):
        self.assertIs(is_sure(TABLE, ("a", 1), ("a", 1)), False)

    def test_numbers_of_the_own_stream_and_of_unknown_ones(self):
        self.assertEqual((number_in(TABLE, ("b", 2), "b"), number_in(TABLE, ("b", 2), "zz")), (0, 0))

    def test_flushes_that_tell_nothing(self):
        for text in ("a b", "!a a b !b", "a b !a !b", "!c a !c b !c", "a !b b !a"):
            self.assertEqual(table_of(Program.of(text)), ((("a", 1), ()), (("b", 1), ())), text)
        self.assertEqual(table_of(Program.of("!a !b !a")), ())
        self.assertEqual(table_of(Program()), ())

    def test_several_flushes_at_one_place(self):
        many = Program.of("a b !b !a !b !a c !c !a a")
        self.assertEqual(table_of(many), (
            (("a", 1), ()), (("a", 2), (("b", 1), ("c", 1))), (("b", 1), ()), (("c", 1), (("a", 1), ("b", 1)))))
        self.assertEqual(flushes_needed(table_of(many)), 3)
        self.assertTrue(alike(program_of(table_of(many)), many))

    def test_tables_of_no_lines(self):
        self.assertEqual((moments(()), bar(()), program_of(()), flushes_needed(()), unsure_pairs(Program())),
                         ((), None, Program(), 0, []))
        self.assertTrue(within(Program(), Program.of("!a")) and alike(Program.of("!b"), Program()))
        self.assertIsNone(lost_pair(Program(), Program.of("!a")))

    def test_other_lines(self):
        for one, other in ((FIRST, Program()), (Program(), FIRST), (FIRST, Program.of("a b")), (Program.of("a"), Program.of("b")),
                           (Program.of("a a b"), Program.of("a b b"))):
            self.assertIs(within(one, other), False)
            self.assertIs(alike(one, other), False)
            with self.assertRaises(OtherLines):
                lost_pair(one, other)

    def test_the_same_lines_in_another_order(self):
        one, other = Program.of("b b a !a"), Program.of("a b b")
        self.assertTrue(alike(one, other) and within(one, other) and lost_pair(one, other) is None)

    def test_unsure_pairs_ascend_and_are_new(self):
        program = Program.of("b a c !b a")
        pairs = unsure_pairs(program)
        self.assertEqual(pairs, [(("a", 1), ("b", 1)), (("a", 1), ("c", 1)), (("a", 2), ("c", 1)), (("b", 1), ("c", 1))])
        pairs.clear()
        self.assertEqual(len(unsure_pairs(program)), 4)

    def test_programs_beyond_the_bounds(self):
        text = " ".join(["a b c d e f g", "!a !c !g"] * 20)
        program = Program.of(text)
        table = table_of(program)
        self.assertEqual(number_in(table, ("b", 20), "a"), 19)
        self.assertEqual(moments(table), tuple((stream, number) for stream in "acg" for number in range(1, 20)))
        self.assertEqual(table_of(program_of(table)), table)
        self.assertTrue(alike(program, program_of(table)))


class Bars(unittest.TestCase):
    def test_what_are_bars(self):
        self.assertIs(is_bar(GAP, (("a", 1), ("a", 1), ("b", 2), ("b", 1))), True)
        self.assertIs(is_bar(GAP, (("a", 1), ("a", 1), ("b", 1), ("b", 2))), False)
        self.assertIs(is_bar(ROWS, (("b", 1), ("a", 1), ("a", 2), ("b", 2))), True)
        self.assertIs(is_bar(ROWS, (("a", 1), ("b", 1), ("b", 3), ("a", 2))), False)

    def test_things_that_are_no_bars(self):
        good = (("a", 1), ("b", 1), ("b", 2), ("a", 2))
        wrong = [
            list(good), good[:3], good + good[:1], tuple(list(part) for part in good), (["a", 1], *good[1:]),
            (*good[:3], ["a", 2]), (("a", True), *good[1:]), (("a", 3), *good[1:]), (("z", 1), *good[1:]),
            (good[0], ("b", 2), *good[2:]), (*good[:2], ("b", 4), good[3]), (*good[:3], ("a", 4)), (*good[:3], ("z", 1)),
            (*good[:3], None), (None, None, None, None), (True, True, True, True), ((), (), (), ()),
            (Program(), Program(), Program(), Program()), (*good[:3], ("a", 0)),
        ]
        for thing in (*wrong, *THINGS):
            self.assertIs(is_bar(ROWS, thing), False, thing)
        for rows in ((), TABLE):
            self.assertIsNone(bar(rows))
            self.assertIs(is_bar(rows, None), False)
            self.assertIs(is_bar(rows, good), False)


class GeneralRules(unittest.TestCase):
    def calls(self):
        yield number_in, {"rows": TABLE, "line": ("b", 2), "stream": "a"}
        yield is_sure, {"rows": TABLE, "one": ("a", 1), "other": ("b", 2)}
        yield in_moment, {"rows": TABLE, "moment": ("a", 1), "line": ("b", 1)}
        yield flushes_needed, {"table": TABLE}
        for rows in ((), TABLE, ROWS, GAP):
            yield moments, {"rows": rows}
            yield bar, {"rows": rows}
            yield program_of, {"rows": rows}

    def test_lists_for_tuples_names_and_the_same_call_again(self):
        for ask, named in self.calls():
            answer = ask(*named.values())
            self.assertEqual(ask(**named), answer)
            self.assertEqual(ask(*[listed(worth) for worth in named.values()]), answer)
            self.assertEqual(ask(**{name: listed(worth) for name, worth in named.items()}), answer)
            self.assertEqual(ask(*named.values()), answer)

    def test_rows_as_lists_beside_a_thing(self):
        self.assertIs(is_bar(listed(ROWS), bar(ROWS)), True)
        self.assertIs(is_bar(rows=listed(GAP), thing=bar(GAP)), True)
        self.assertIs(is_bar(listed(ROWS), listed(bar(ROWS))), False)

    def test_arguments_are_not_changed(self):
        rows = listed(ROWS)
        for ask in (moments, bar, program_of, flushes_needed):
            ask(rows)
        number_in(rows, ["a", 3], "b")
        is_sure(rows, ["a", 3], ["b", 1])
        self.assertEqual(rows, listed(ROWS))

    def test_answers_are_tuples_at_any_depth(self):
        for ask, named in self.calls():
            self.assertFalse(has_lists(ask(*[listed(worth) for worth in named.values()])))
        self.assertFalse(any(has_lists(pair) for pair in unsure_pairs(FIRST)))
        self.assertFalse(has_lists(table_of(FIRST)) or has_lists(lost_pair(FIRST, SECOND)))

    def test_programs_by_names(self):
        self.assertEqual(table_of(program=FIRST), TABLE)
        self.assertEqual(unsure_pairs(program=FIRST), unsure_pairs(FIRST))
        self.assertEqual((within(one=SECOND, other=FIRST), within(other=SECOND, one=FIRST)), (True, False))
        self.assertEqual((alike(one=FIRST, other=SECOND), lost_pair(one=FIRST, other=SECOND)),
                         (False, lost_pair(FIRST, SECOND)))
        self.assertEqual((is_rows(thing=TABLE), is_table(thing=TABLE)), (True, True))


if __name__ == "__main__":
    unittest.main()
