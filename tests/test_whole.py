"""The whole program [1]: what its files tell of one and the same Program, held against one another."""

import random
import unittest

from lateshown.board import Board
from lateshown.desk import answers
from lateshown.great import ahead_of, place_range
from lateshown.killed import can_show_at, how_many_runs, how_many_runs_at, number_of_run
from lateshown.numbers import how_many_looser, nth_table, table_number
from lateshown.order import bare, full, join, lean, marks, standing
from lateshown.outputs import how_many_outputs, how_many_sets_seen, is_output, number_of_output, output_at
from lateshown.places import between, places_of, showing, shows_all
from lateshown.programs import Program
from lateshown.seen import Seen, lazy_run, read_runs
from lateshown.tables import (
    alike, flushes_needed, is_sure, is_table, lost_pair, number_in, program_of, table_of, unsure_pairs, within,
)
from lateshown.texts import board_in, board_text, line_in, line_text
from lateshown.trees import is_output_in, table_in
from lateshown.wishes import all_wishes, forced, how_few, kept, least_wishes, put_in, thinned


def programs(many):
    """Programs of at most 12 lines of at most 4 streams, with some flushes."""
    rng = random.Random(8)
    for _ in range(many):
        names = "abcd"[:rng.randrange(1, 5)]
        deeds = [("write", rng.choice(names)) for _ in range(rng.randrange(13))]
        for _ in range(rng.randrange(6)):
            deeds.insert(rng.randrange(len(deeds) + 1), ("flush", rng.choice(names)))
        yield rng, Program(deeds)


class Whole(unittest.TestCase):
    def test_outputs_are_the_orders_that_keep_the_table(self):
        for rng, program in programs(60):
            table = table_of(program)
            self.assertIs(is_table(table), True)
            for number in {0, how_many_outputs(program) - 1, rng.randrange(how_many_outputs(program))}:
                out = output_at(program, number)
                self.assertEqual((is_output(program, out), number_of_output(program, out)), (True, number))
                for one in program.lines:
                    for other in program.lines:
                        if is_sure(table, one, other):
                            self.assertLess(out.index(one), out.index(other))
            again = program_of(table)
            self.assertEqual((alike(again, program), len(again) - len(again.lines)), (True, flushes_needed(table)))

    def test_two_programs_are_parted_by_two_lines(self):
        for rng, program in programs(80):
            other = nth_table(program.writes, rng.randrange(table_number(full(program.writes)) + 1))
            lost = lost_pair(program, other)
            self.assertEqual(lost is None, within(program, other))
            self.assertEqual(standing(program, other) in ("alike", "surer"), lost is None)
            if lost is not None:
                self.assertEqual([is_sure(table_of(own), *lost) for own in (program, other)], [False, True])
                # Neither of both is sure to be ahead in the first one: some output of it is none of the other one.
                self.assertIn(tuple(sorted(lost)), unsure_pairs(program))

    def test_what_stopped_programs_show_are_the_beginnings_of_outputs(self):
        for _, program in programs(60):
            if how_many_outputs(program) > 150:
                continue
            outs = [output_at(program, number) for number in range(how_many_outputs(program))]
            begun = sorted({out[:many] for out in outs for many in range(len(out) + 1)})
            self.assertEqual(how_many_runs(program), len(begun))
            self.assertEqual([number_of_run(program, run) for run in begun], list(range(len(begun))))
            self.assertEqual(how_many_sets_seen(program), len({frozenset(run) for run in begun}))
            for place in range(len(program) + 1):
                shown = [run for run in begun if can_show_at(program, place, run)]
                self.assertEqual(how_many_runs_at(program, place), len(shown))

    def test_few_outputs_tell_the_marks(self):
        for _, program in programs(80):
            outs = showing(program)
            self.assertIs(shows_all(program, outs), True)
            seen = Seen(program.writes)
            for stream in program.streams:
                seen.tell(lazy_run(program, stream))
            self.assertEqual((seen.left(), seen.surest()), (marks(program), lean(program)))
            self.assertEqual(seen.how_many(), how_many_looser(program))
            self.assertIs(seen.fits(program), True)
            self.assertEqual(read_runs(program.writes, seen.runs), lean(program))

    def test_wishes_that_a_program_keeps_lead_to_its_table(self):
        for _, program in programs(60):
            done = kept(program, all_wishes(program))
            plain = bare(program.writes)
            least = least_wishes(program)
            self.assertEqual(forced(plain, least), done)
            self.assertEqual(len(least), flushes_needed(table_of(program)))
            self.assertEqual(len(thinned(program)) - len(program.lines), len(least))
            self.assertEqual(kept(thinned(program), all_wishes(program)), done)
            self.assertLessEqual(how_few(plain, least), len(least))
            # One flush more has the marks of both.
            for stream in program.streams:
                more = put_in(program, ((stream, len(program) // 2),))
                flush = (len(Program(program.deeds[:len(program) // 2]).lines), stream)
                alone = put_in(plain, ((stream, flush[0]),))
                self.assertEqual(lean(more), join(program, alone))

    def test_flat_trees_and_single_deeds(self):
        for _, program in programs(60):
            tree = tuple((name, "") for name in "abcd")
            self.assertEqual(table_in(tree, program), table_of(program))
            self.assertIs(is_output_in(tree, program, program.lines), True)
            great = tuple(("write", stream, 1) if word == "write" else (word, stream) for word, stream in program.deeds)
            for line in program.lines:
                self.assertEqual(place_range(great, line), places_of(program, line))
                for stream in program.streams:
                    if stream != line[0]:
                        self.assertEqual(ahead_of(great, line, stream), number_in(table_of(program), line, stream))

    def test_boards_and_desks_of_programs(self):
        for _, program in programs(40):
            board = Board(program.writes)
            board["own"], board["bare"], board["full"] = program, bare(program.writes), full(program.writes)
            board.frame("own", board["bare"], board["full"])
            self.assertIn(board.effect("full", program), ("alike", "surer"))
            self.assertTrue(board_in(board_text(board)) == board)
            requests = [" ".join(["writes", *program.writes]), f"plan own {program.text}"]
            wanted = ["done", "done"]
            for one in program.lines[:4]:
                for other in program.lines[-4:]:
                    self.assertEqual(line_in(line_text(one)), one)
                    requests.append(f"sure own {line_text(one)} {line_text(other)}")
                    sure = between(program, other, one) is None and one != other
                    self.assertIs(board.sure("own", one, other), sure)
                    wanted.append("yes" if sure else "no")
            self.assertEqual(answers("\n".join(requests)), wanted)


if __name__ == "__main__":
    unittest.main()
