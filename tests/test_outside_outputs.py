"""Outputs and places [6], [7], held against all habits of the streams."""

import unittest
from fractions import Fraction
from itertools import permutations, product

import brute
from lateshown import outputs, places
from lateshown.errors import NoNumber, NoOutput, NoStart
from lateshown.programs import Program

SHAPES = ({"a": 2, "b": 2}, {"a": 1, "b": 1, "c": 1}, {"a": 3, "b": 1})


def small_deeds():
    """The DEEDs of all Programs of few deeds, and of all of few lines with any flushes between."""
    yield from brute.all_deeds("ab", 5)
    yield from brute.all_deeds("abc", 3)
    for counts in SHAPES:
        yield from brute.programs_with(counts)


def unlike_programs(*shapes):
    """Of all Programs with so many lines, one for each set of OUTPUTs, and these OUTPUTs, ascending."""
    known = {}
    for counts in shapes:
        for deeds in brute.programs_with(counts):
            known.setdefault(brute.outputs(deeds), Program(deeds))
    return [(program, sorted(seen)) for seen, program in known.items()]


def starts_of(seen):
    """The set of all beginnings of the OUTPUTs."""
    return {out[:many] for out in seen for many in range(len(out) + 1)}


def changes_in(out):
    return sum(1 for place in range(1, len(out)) if out[place][0] != out[place - 1][0])


def screen_by(deeds, out, when):
    """The screen if these lines are let out just ahead of the DEEDs at these places; None if that cannot be."""
    screen, written = (), {}
    for place, deed in enumerate([*deeds, None]):
        for line in [line for line, own in zip(out, when) if own == place]:
            if [line] not in [lines[:1] for lines in brute.held(screen, written)]:
                return None
            screen += (line,)
        if deed is None:
            return screen
        if deed[0] == "write":
            written[deed[1]] = written.get(deed[1], 0) + 1
        elif brute.flushed(screen, written, deed[1]) != screen:
            return None
    return None


class EachProgram(unittest.TestCase):
    def test_all_small_programs(self):
        for deeds in small_deeds():
            program = Program(deeds)
            seen = sorted(brute.outputs(deeds))
            self.check_outputs(program, seen)
            self.check_numbers(program, seen)
            self.check_changes(program, seen)
            self.check_schedules(program, seen)
            self.check_places(program, seen)
            self.check_heads(program, seen)
            self.check_showing(program, seen)

    def check_outputs(self, program, seen):
        starts = starts_of(seen)
        self.assertEqual(outputs.how_many_outputs(program), len(seen))
        self.assertEqual(outputs.how_many_sets_seen(program), len({frozenset(start) for start in starts}))
        self.assertEqual(outputs.last_lines(program), tuple(sorted({out[-1] for out in seen if out})))
        for start in starts:
            self.assertIs(outputs.is_start(program, start), True)
            self.assertIs(outputs.is_output(program, start), start in seen)
            behind = [out for out in seen if out[:len(start)] == start]
            self.assertEqual(outputs.outputs_behind(program, start), len(behind))
            after = {out[len(start)] for out in behind if len(out) > len(start)}
            self.assertEqual(outputs.next_lines(program, start), tuple(sorted(after)))
            for line in program.lines:
                self.assertIs(outputs.is_start(program, (*start, line)), (*start, line) in starts)

    def check_numbers(self, program, seen):
        self.assertEqual([outputs.output_at(program, number) for number in range(len(seen))], seen)
        self.assertEqual([outputs.number_of_output(program, out) for out in seen], list(range(len(seen))))
        for number in (-1, len(seen)):
            with self.assertRaises(NoNumber):
                outputs.output_at(program, number)

    def check_changes(self, program, seen):
        many = [changes_in(out) for out in seen]
        self.assertEqual([outputs.changes_of(out) for out in seen], many)
        self.assertEqual((outputs.fewest_changes(program), outputs.most_changes(program)), (min(many), max(many)))
        chosen = outputs.with_fewest_changes(program)
        self.assertIn(chosen, seen)
        self.assertEqual(changes_in(chosen), min(many))

    def check_schedules(self, program, seen):
        for out in seen:
            when = outputs.schedule(program, out)
            self.assertIs(outputs.is_schedule(program, out, when), True)
            self.assertEqual(list(when), sorted(when))
            self.assertEqual(screen_by(program.deeds, out, when), out)

    def check_places(self, program, seen):
        for line in program.lines:
            stands = [out.index(line) for out in seen]
            often = [(place, stands.count(place)) for place in sorted(set(stands))]
            self.assertEqual(places.places_of(program, line), (min(stands), max(stands)))
            self.assertEqual(places.often_at(program, line), often)
            mean = Fraction(sum(stands), len(seen))
            self.assertEqual(places.mean_place(program, line), (mean.numerator, mean.denominator))

    def check_heads(self, program, seen):
        many = len(program.lines)
        heads = [at for at in range(many + 1) if len({frozenset(out[:at]) for out in seen}) == 1]
        self.assertEqual(places.sure_heads(program), tuple(heads))
        self.assertEqual(places.pieces(program), [
            tuple(sorted(seen[0][low:high])) for low, high in zip(heads, heads[1:])])

    def check_showing(self, program, seen):
        shown = places.showing(program)
        self.assertIs(type(shown), tuple)
        self.assertTrue(1 <= len(shown) <= max(1, len(program.streams)))
        self.assertTrue(set(shown) <= set(seen))
        self.assertTrue(self.all_shown(seen, shown))
        self.assertIs(places.shows_all(program, shown), True)
        for some in (shown[:1], shown[1:], tuple(seen[:2]), (seen[0], seen[-1]), ()):
            self.assertIs(places.shows_all(program, some), self.all_shown(seen, some))

    def all_shown(self, seen, shown):
        def turned(outs):
            return {(one, other) for out in outs for at, one in enumerate(out) for other in out[at + 1:]}
        both = {(one, other) for one, other in turned(seen) if (other, one) in turned(seen)}
        return both <= turned(shown)


class EachPairOfLines(unittest.TestCase):
    def test_two_lines(self):
        for program, seen in unlike_programs(*SHAPES, {"a": 2, "b": 1, "c": 1}, {"a": 2}, {"a": 3, "b": 2}):
            for one, other in product(program.lines, repeat=2):
                self.check_two(program, seen, one, other)

    def check_two(self, program, seen, one, other):
        ahead = [out for out in seen if out.index(one) < out.index(other)]
        share = Fraction(len(ahead), len(seen))
        self.assertEqual(places.ahead_often(program, one, other), len(ahead))
        self.assertEqual(places.share_ahead(program, one, other), (share.numerator, share.denominator))
        apart = sorted({out.index(other) - out.index(one) - 1 for out in ahead})
        self.assertEqual(places.between(program, one, other), (apart[0], apart[-1]) if apart else None)
        lines = {line for out in ahead for line in out[out.index(one) + 1:out.index(other)]}
        self.assertEqual(places.can_stand_between(program, one, other), tuple(sorted(lines)))
        beside = [abs(out.index(one) - out.index(other)) == 1 for out in seen]
        self.assertIs(places.can_be_neighbours(program, one, other), any(beside))
        self.assertIs(places.always_neighbours(program, one, other), all(beside))


class EachOrder(unittest.TestCase):
    def test_orders(self):
        for program, seen in unlike_programs(*SHAPES, {"a": 2, "b": 1, "c": 1}):
            sure = brute.sure_pairs(seen)
            for order in permutations(program.lines):
                self.assertIs(outputs.is_output(program, order), order in seen)
                self.assertEqual(outputs.changes_of(order), changes_in(order))
                self.assertEqual(outputs.broken_at(program, order), self.first_broken(sure, order))
                if order not in seen:
                    self.check_no_output(program, order)

    def first_broken(self, sure, order):
        for place, line in enumerate(order):
            lacking = sorted(one for one, other in sure if other == line and one not in order[:place])
            if lacking:
                return place, lacking[0]
        return None

    def check_no_output(self, program, order):
        self.assertIsNone(outputs.number_of_output(program, order))
        good = outputs.output_at(program, 0)
        for ask in (lambda: outputs.schedule(program, order), lambda: outputs.is_schedule(program, order, None),
                    lambda: places.swaps(program, order, good), lambda: places.swaps(program, good, order),
                    lambda: places.far_apart(program, order, good), lambda: places.far_apart(program, good, order),
                    lambda: places.shows_all(program, (good, order))):
            with self.assertRaises(NoOutput):
                ask()

    def test_any_tuples_of_lines(self):
        for program, seen in unlike_programs({"a": 2, "b": 1}, {"a": 1, "b": 1, "c": 1}, {"a": 2}, {}):
            starts = starts_of(seen)
            lines = [*program.lines, ("a", 3), ("d", 1)]
            for many in range(5):
                for some in product(lines, repeat=many):
                    self.check_tuple(program, seen, starts, some)

    def check_tuple(self, program, seen, starts, some):
        self.assertIs(outputs.is_start(program, some), some in starts)
        self.assertIs(outputs.is_output(program, some), some in seen)
        if some not in starts:
            wrong = min(place for place in range(len(some)) if some[:place + 1] not in starts)
            for ask in (outputs.next_lines, outputs.outputs_behind):
                with self.assertRaises(NoStart) as caught:
                    ask(program, some)
                self.assertEqual(caught.exception.place, wrong)


class EachPairOfOutputs(unittest.TestCase):
    def test_swaps(self):
        for program, seen in unlike_programs({"a": 2, "b": 2}, {"a": 2, "b": 1, "c": 1}):
            for one in seen:
                far = self.far_from(seen, one)
                for other in seen:
                    self.assertEqual(places.far_apart(program, one, other), far[other])
                    rows = places.swaps(program, one, other)
                    self.assertEqual((rows[0], rows[-1], len(rows)), (one, other, far[other] + 1))
                    self.assertTrue(set(rows) <= set(seen))
                    self.assertTrue(all(next_row in self.beside(row) for row, next_row in zip(rows, rows[1:])))

    def beside(self, out):
        """What comes of two neighbours changing their places."""
        return [out[:at] + (out[at + 1], out[at]) + out[at + 2:] for at in range(len(out) - 1)]

    def far_from(self, seen, one):
        """By going from OUTPUT to OUTPUT: of each one, how many swaps it is away."""
        far, new = {one: 0}, [one]
        for out in new:
            for after in self.beside(out):
                if after in seen and after not in far:
                    far[after] = far[out] + 1
                    new.append(after)
        return far


class EachSchedule(unittest.TestCase):
    def test_all_tuples_of_numbers(self):
        for deeds in brute.all_deeds("ab", 4):
            program = Program(deeds)
            many = len(program.lines)
            for out in brute.outputs(deeds):
                for when in product(range(-1, len(deeds) + 2), repeat=many):
                    fit = list(when) == sorted(when) and screen_by(deeds, out, when) == out
                    self.assertIs(outputs.is_schedule(program, out, when), fit, (program.text, out, when))


class Greater(unittest.TestCase):
    TEXTS = ("a b c a !a b c !b a b !c c", "a a b b !a c c !c a b !b c", "c b a !b !c a b a !a b c c", "a b a !b b a !a b a b",
             "b !b a c b a b !a c a !c d d !d b", "a a a b b b c c c")

    def test_what_comes_of_all_habits(self):
        for text in self.TEXTS:
            program = Program.of(text)
            seen = sorted(brute.outputs(program.deeds))
            each = EachProgram()
            each.check_changes(program, seen)
            each.check_places(program, seen)
            each.check_heads(program, seen)
            each.check_showing(program, seen)
            self.check_numbers(program, seen)
            for one, other in product(program.lines[::3], program.lines):
                EachPairOfLines().check_two(program, seen, one, other)

    def check_numbers(self, program, seen):
        self.assertEqual(outputs.how_many_outputs(program), len(seen))
        self.assertEqual(outputs.how_many_sets_seen(program), len({frozenset(start) for start in starts_of(seen)}))
        for number in (*range(0, len(seen), 97), len(seen) - 1):
            self.assertEqual(outputs.output_at(program, number), seen[number])
            self.assertEqual(outputs.number_of_output(program, seen[number]), number)
        for start in sorted(starts_of(seen))[::53]:
            self.assertEqual(outputs.outputs_behind(program, start), sum(out[:len(start)] == start for out in seen))


if __name__ == "__main__":
    unittest.main()
