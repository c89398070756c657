"""Programs with the same writes [8]: edges, wrong inputs, great WRITES, and the general rules."""

import unittest

import brute
from asking import check_call, check_raises
from lateshown.errors import OtherWrites
from lateshown.order import (
    above, all_marks, allowed, bare, below, distance, full, has_mark, is_idle, is_way, join, lean, marks, meet, middle,
    output_against, parting_mark, rank, rest, standing, way, with_marks,
)
from lateshown.outputs import is_output
from lateshown.programs import Program
from lateshown.tables import alike, flushes_needed, table_of, within

WRITES = ("a", "a", "b", "b")
EARLY, LATE = Program.of("a !a a b b"), Program.of("a a b !a b")
OF_TWO = (join, meet, rest, allowed, standing, distance, way, parting_mark)


class Edges(unittest.TestCase):
    def test_no_writes(self):
        self.assertEqual((all_marks(()), bare(()), full(()), with_marks((), ())), ((), Program(), Program(), Program()))
        for text in ("-", "!a", "!a !b"):
            program = Program.of(text)
            self.assertEqual((marks(program), lean(program), rank(program)), ((), Program(), 0))
            self.assertEqual((above(program), below(program)), ([], []))
            self.assertEqual([ask(program, Program()) for ask in OF_TWO],
                             [Program(), Program(), Program(), Program(), "alike", 0, [Program()], None])
            self.assertEqual(middle(program, Program(), program), Program())
            self.assertIs(is_way(program, Program(), (program,)), True)
            self.assertIs(is_way(program, Program(), ()), False)

    def test_one_stream_only(self):
        writes = ("a", "a", "a")
        program = Program.of("!a a !a a !b a !a")
        self.assertEqual((all_marks(writes), marks(program), lean(program).text), ((), (), "a a a"))
        self.assertEqual((bare(writes), full(writes), rank(program)), (Program.of("a a a"), Program.of("a a a"), 0))
        for moment in range(4):
            self.assertIs(is_idle(writes, (moment, "a")), True)
            self.assertIs(has_mark(program, (moment, "a")), False)
            self.assertIsNone(output_against(program, (moment, "a")))

    def test_flushes_of_streams_without_lines(self):
        program = Program.of("!c a !c !b b !c !a a")
        self.assertEqual((marks(program), lean(program).text, rank(program)), ((), "a b a", 0))
        self.assertEqual(marks(Program.of("!z a !z !a !a b !z")), ((1, "a"),))
        self.assertEqual(standing(program, Program.of("a b a")), "alike")

    def test_the_first_and_the_last_moment(self):
        for writes in (WRITES, ("a", "b"), ("b", "a", "a", "c")):
            for stream in sorted(set(writes)):
                for moment in (0, len(writes)):
                    self.assertIs(is_idle(writes, (moment, stream)), True)
        self.assertEqual(all_marks(("a", "b")), ((1, "a"),))
        self.assertEqual(all_marks(("b", "a")), ((1, "b"),))
        self.assertEqual(all_marks(("b", "a", "b")), ((1, "b"), (2, "a")))
        self.assertEqual(all_marks(("a", "b", "c")), ((1, "a"), (2, "a"), (2, "b")))

    def test_idle_by_what_is_not_written_ahead_or_behind(self):
        self.assertEqual([is_idle(WRITES, (moment, "a")) for moment in range(5)], [True, False, False, False, True])
        self.assertEqual([is_idle(WRITES, (moment, "b")) for moment in range(5)], [True] * 5)

    def test_flushes_at_one_moment_come_by_their_streams(self):
        program = Program.of("c b a !c !a !b a b c")
        self.assertEqual(lean(program).text, "c b a !a !b !c a b c")
        self.assertEqual(with_marks(program.writes, ((3, "c"), (3, "a"), (3, "b"), (3, "c"))).text, "c b a !a !b !c a b c")

    def test_several_flushes_at_one_moment(self):
        self.assertEqual(lean(Program.of("a !a !a !b !a b !b a")).text, "a !a b !b a")
        self.assertEqual(marks(Program.of("a !a !a !b !a b !b a")), ((1, "a"), (2, "b")))

    def test_flushes_that_are_needless_without_being_idle(self):
        self.assertEqual(lean(Program.of("a !a a !a b !a b")).text, "a a !a b b")
        self.assertEqual(marks(Program.of("a a !a b b")), ((1, "a"), (2, "a"), (3, "a")))

    def test_sets_of_flushes(self):
        self.assertEqual(with_marks(WRITES, ()), bare(WRITES))
        self.assertEqual(with_marks(WRITES, ((0, "a"), (4, "a"), (1, "b"), (4, "b"))), bare(WRITES))
        self.assertEqual(with_marks(WRITES, ((3, "a"), (1, "a"), (3, "a"))).text, "a !a a b !a b")
        self.assertEqual(with_marks(WRITES, tuple(brute.all_flushes(WRITES)) * 6), full(WRITES))

    def test_a_program_and_itself(self):
        for program in (EARLY, LATE, bare(WRITES), full(WRITES), Program.of("!a a !a a !a b !b !a b")):
            own = lean(program)
            self.assertEqual([ask(program, program) for ask in OF_TWO],
                             [own, own, bare(WRITES), full(WRITES), "alike", 0, [own], None])
            self.assertEqual(middle(program, program, EARLY), own)
            self.assertIs(is_way(program, program, (program,)), True)
            self.assertIs(is_way(program, program, (program, program)), False)

    def test_above_and_below_at_the_ends(self):
        self.assertEqual((above(full(WRITES)), below(bare(WRITES))), ([], []))
        self.assertEqual([own.text for own in above(bare(WRITES))], ["a !a a b b", "a a b !a b"])
        self.assertEqual([own.text for own in below(Program.of("a !a a b !a b"))], ["a a b !a b", "a !a a b b"])

    def test_steps_come_by_their_marks(self):
        # (1, "b") and (3, "b") stand right above (2, "b").
        writes = ("b", "a", "b", "a")
        self.assertEqual([marks(own) for own in above(bare(writes))], [((2, "a"),), ((2, "b"),)])
        self.assertEqual([marks(own) for own in below(full(writes))], [
            ((2, "a"), (2, "b"), (3, "b")), ((1, "b"), (2, "b"), (3, "b")), ((1, "b"), (2, "a"), (2, "b"))])

    def test_the_parting_mark_is_the_least_by_comparison(self):
        one, other = Program.of("b !b a a b"), Program.of("b a a !a b")
        self.assertEqual((marks(one), marks(other)), (((1, "b"), (2, "b")), ((2, "a"), (3, "a"))))
        self.assertEqual((parting_mark(one, other), parting_mark(other, one)), ((1, "b"), (1, "b")))


class NoWays(unittest.TestCase):
    def test_what_is_no_way(self):
        nothing, both = bare(WRITES), join(EARLY, LATE)
        for programs, fit in (
            ((EARLY, nothing, LATE), True), ((EARLY, both, LATE), True), ((EARLY, LATE), False), ((EARLY,), False),
            ((EARLY, nothing, LATE, LATE), False), ((LATE, nothing, EARLY), False), ((nothing, EARLY, both), False),
            ((EARLY, nothing, EARLY), False), ((EARLY, full(WRITES), LATE), False), ((EARLY, EARLY, LATE), False),
            ((EARLY, nothing, EARLY, nothing, LATE), False), ((), False), ((nothing, nothing, LATE), False),
        ):
            self.assertIs(is_way(EARLY, LATE, programs), fit)
            self.assertIs(is_way(EARLY, LATE, list(programs)), fit)

    def test_ways_of_programs_that_are_not_lean(self):
        programs = [Program.of(text) for text in ("!a a !a a b !b b !a", "a a b b !a !b", "a a !b b !a b !a")]
        self.assertIs(is_way(EARLY, LATE, programs), True)
        self.assertIs(is_way(programs[0], programs[2], programs), True)

    def test_many_programs(self):
        self.assertIs(is_way(EARLY, LATE, (EARLY, bare(WRITES)) * 150), False)


class WrongInputs(unittest.TestCase):
    def test_other_writes(self):
        others = [Program.of(text) for text in ("a b", "-", "a a b", "b a a b", "a a b c", "a a b b b")]
        for other in others:
            for ask in OF_TWO:
                check_raises(self, OtherWrites(), ask, EARLY, other)
                check_raises(self, OtherWrites(), ask, other, EARLY)
            for three in ((other, EARLY, LATE), (EARLY, other, LATE), (EARLY, LATE, other), (EARLY, other, other)):
                check_raises(self, OtherWrites(), middle, *three)
            for programs in ((), (EARLY,), (EARLY, bare(WRITES), LATE)):
                check_raises(self, OtherWrites(), is_way, EARLY, other, programs)
                check_raises(self, OtherWrites(), is_way, other, LATE, programs)
            for programs in ((other,), (EARLY, other, LATE), (EARLY, bare(WRITES), other), (EARLY, LATE, other, other)):
                check_raises(self, OtherWrites(), is_way, EARLY, LATE, programs)

    def test_the_same_lines_are_not_the_same_writes(self):
        check_raises(self, OtherWrites(), join, Program.of("a b"), Program.of("b a"))


class Great(unittest.TestCase):
    def programs_of(self, writes):
        """Some Programs with these WRITES, of few and of many flushes."""
        for step in (1, 2, 3, 5, 7):
            flushes = brute.all_flushes(writes)[step::step * 3 + 1][:60]
            yield Program(brute.deeds_with(writes, flushes))

    def is_lean(self, program):
        writes, owned = program.writes, marks(program)
        flushes, moment = [], 0
        for word, stream in program.deeds:
            if word == "write":
                moment += 1
            else:
                flushes.append((moment, stream))
        under = {mark for own in flushes for mark in brute.marks_below(writes, own)}
        return flushes == sorted(set(flushes)) and set(flushes) <= set(owned) and not under & set(flushes)

    def check_lean(self, program, owned):
        self.assertEqual(marks(program), tuple(sorted(owned)))
        self.assertTrue(self.is_lean(program))

    def test_marks(self):
        for writes in brute.GREAT_WRITES:
            flushes = brute.all_flushes(writes)
            self.assertEqual(all_marks(writes), tuple(own for own in flushes if not brute.is_no_mark(writes, own)))
            for program in self.programs_of(writes):
                table = table_of(program)
                deeds = []
                for moment, stream in flushes:
                    at = len(deeds_ahead(program, moment))
                    longer = Program(program.deeds[:at] + (("flush", stream),) + program.deeds[at:])
                    if table_of(longer) == table and not brute.is_no_mark(writes, (moment, stream)):
                        deeds.append((moment, stream))
                self.assertEqual(marks(program), tuple(deeds))
                self.assertTrue(self.is_lean(lean(program)))
                self.assertTrue(alike(lean(program), program))
                self.assertEqual(len(lean(program)) - len(writes), flushes_needed(table))
            self.check_lean(full(writes), all_marks(writes))
            self.check_lean(bare(writes), ())

    def test_two_programs(self):
        for writes in brute.GREAT_WRITES:
            programs = list(self.programs_of(writes))
            for one, other in zip(programs, programs[1:] + programs[:1]):
                first, second = set(marks(one)), set(marks(other))
                self.check_lean(join(one, other), first | second)
                self.check_lean(meet(one, other), first & second)
                self.check_lean(middle(one, other, programs[2]),
                                first & second | first & set(marks(programs[2])) | second & set(marks(programs[2])))
                self.assertTrue(first <= set(marks(join(rest(one, other), other))))
                for smaller in below(rest(one, other)):
                    self.assertFalse(first <= set(marks(join(smaller, other))))
                self.assertTrue(set(marks(meet(allowed(one, other), one))) <= second)
                for greater in above(allowed(one, other)):
                    self.assertFalse(set(marks(meet(greater, one))) <= second)
                self.assertEqual(distance(one, other), len(first ^ second))
                self.assertEqual(parting_mark(one, other), min(first ^ second, default=None))
                self.assertEqual(standing(one, other) in ("alike", "surer"), within(one, other))
                self.assertEqual(standing(one, other) in ("alike", "looser"), within(other, one))

    def test_ways(self):
        for writes in brute.GREAT_WRITES:
            programs = [bare(writes), full(writes), *self.programs_of(writes)]
            for one, other in zip(programs, programs[1:]):
                steps = way(one, other)
                self.assertEqual(len(steps), distance(one, other) + 1)
                self.assertIs(is_way(one, other, steps), True)
                self.assertIs(is_way(other, one, steps[::-1]), True)
                for program in steps:
                    self.assertTrue(self.is_lean(program))

    def test_one_mark_more_and_one_less(self):
        for writes in brute.GREAT_WRITES:
            for program in self.programs_of(writes):
                owned = marks(program)
                for others, sign in ((above(program), 1), (below(program), -1)):
                    changed = [set(marks(other)) ^ set(owned) for other in others]
                    self.assertTrue(all(len(own) == 1 and rank(other) == len(owned) + sign
                                        for own, other in zip(changed, others)))
                    self.assertEqual(changed, sorted(changed, key=min))
                    self.assertTrue(all(self.is_lean(other) for other in others))

    def test_outputs_against_marks(self):
        for writes in brute.GREAT_WRITES:
            for program in self.programs_of(writes):
                for flush in brute.all_flushes(writes):
                    out = output_against(program, flush)
                    self.assertEqual(out is None, is_idle(writes, flush) or has_mark(program, flush))
                    if out is not None:
                        self.assertIs(is_output(program, out), True)
                        self.assertIs(is_output(with_marks(writes, (flush,)), out), False)


def deeds_ahead(program, moment):
    """The DEEDs of the Program up to this many writes."""
    many, deeds = 0, []
    for deed in program.deeds:
        if many == moment:
            break
        many += deed[0] == "write"
        deeds.append(deed)
    return deeds


class GeneralRules(unittest.TestCase):
    def calls(self):
        programs = (EARLY, LATE, bare(WRITES), Program.of("!a a a !b b !a b"))
        for ask in (marks, lean, above, below, rank):
            yield from ((ask, {"program": program}) for program in (*programs, Program()))
        for ask in (all_marks, bare, full):
            yield from ((ask, {"writes": writes}) for writes in ((), WRITES, ("e", "o", "o", "e", "x")))
        yield with_marks, {"writes": WRITES, "flushes": ((3, "a"), (1, "a"), (0, "b"), (3, "a"))}
        for flush in brute.all_flushes(WRITES):
            yield is_idle, {"writes": WRITES, "flush": flush}
            yield has_mark, {"program": EARLY, "flush": flush}
            yield output_against, {"program": EARLY, "flush": flush}
        for one in programs:
            for other in programs:
                yield from ((ask, {"one": one, "other": other}) for ask in OF_TWO)
                yield middle, {"one": one, "other": other, "third": LATE}
                yield is_way, {"one": one, "other": other, "programs": (EARLY, bare(WRITES), LATE)}

    def test_lists_for_tuples_names_and_the_same_call_again(self):
        for ask, named in self.calls():
            check_call(self, ask, named)

    def test_other_programs_in_between(self):
        writes = brute.GREAT_WRITES[0]
        answers = [way(bare(writes), full(writes)), output_against(bare(writes), (7, "c")), above(bare(writes))]
        way(EARLY, LATE), output_against(EARLY, (3, "a")), above(EARLY), way(full(writes), bare(writes))
        self.assertEqual([way(bare(writes), full(writes)), output_against(bare(writes), (7, "c")),
                          above(bare(writes))], answers)

    def test_kinds(self):
        for flush in brute.all_flushes(WRITES):
            self.assertIs(type(is_idle(WRITES, flush)), bool)
            self.assertIs(type(has_mark(EARLY, flush)), bool)
        for answer in (all_marks(list(WRITES)), marks(LATE), parting_mark(EARLY, LATE), output_against(EARLY, [3, "a"])):
            self.assertIs(type(answer), tuple)
        for answer in (above(EARLY), below(EARLY), way(EARLY, LATE)):
            self.assertIs(type(answer), list)
        self.assertEqual(lean(EARLY).deeds, EARLY.deeds)
        self.assertIs(type(with_marks(list(WRITES), [[1, "a"]]).deeds[0]), tuple)


if __name__ == "__main__":
    unittest.main()
