"""What was seen [11], held against all sets of flushes; what a stopped screen shows [12], against all habits."""

import random
import unittest
from itertools import combinations, permutations, product

import brute
from lateshown import killed, seen
from lateshown.errors import NoNumber, NoRun
from lateshown.order import is_idle, lean, marks
from lateshown.programs import Program, numbered
from lateshown.tables import table_of


def subsets(things, most=None):
    for many in range(len(things) + 1 if most is None else most + 1):
        yield from combinations(things, many)


def runs_of(writes):
    """The list of all RUNs of the WRITES."""
    lines = numbered(writes)
    found = []
    for many in range(len(lines) + 1):
        for order in permutations(lines, many):
            if order == numbered([stream for stream, _ in order]):
                found.append(order)
    return found


def shown_by(deeds):
    """The set of all that the Program can show, stopped anywhere or at its end."""
    return frozenset().union(*brute.screens_at(deeds)) | brute.outputs(deeds)


class Flushes(unittest.TestCase):
    WRITES = ("", "a", "ab", "aba", "aab", "abb", "abc", "baab", "abab", "abca", "aabb")

    def test_a_run_refutes_the_flushes_that_no_program_that_shows_it_has(self):
        for text in self.WRITES:
            writes = tuple(text)
            flushes = brute.all_flushes(writes)
            shown = {flush: shown_by(brute.deeds_with(writes, (flush,))) for flush in flushes}
            runs = runs_of(writes)
            for run in runs:
                wrong = tuple(flush for flush in flushes if run not in shown[flush])
                self.assertEqual(seen.refuted_by(writes, run), wrong)
                for flush in flushes:
                    self.assertIs(seen.refutes(writes, run, flush), flush in wrong)
                    self.check_witness(writes, run, flush, flush in wrong)
            for flush in flushes:
                against = [run for run in runs if len(run) == len(writes) and run not in shown[flush]]
                self.assertEqual([run for run in runs if seen.is_trial(writes, flush, run)], against)
                out = seen.trial(writes, flush)
                self.assertTrue(out in against if against else out is None)
                self.assertIs(is_idle(writes, flush), against == [])

    def check_witness(self, writes, run, flush, refuted):
        moment, stream = flush
        lines = numbered(writes)
        lacks = []
        for place, line in enumerate(run):
            if line in lines[moment:]:
                lacks.extend((line, own) for own in sorted(lines[:moment])
                             if own[0] == stream and own not in run[:place])
        self.assertEqual(lacks != [], refuted)
        self.assertEqual(seen.witness(writes, run, flush), lacks[0] if lacks else None)

    def test_what_is_a_run(self):
        for text in self.WRITES:
            writes = tuple(text)
            lines = numbered(writes)
            runs = runs_of(writes)
            for many in range(min(len(lines), 3) + 1):
                for order in product(lines + (("a", 9), ("z", 1)), repeat=many):
                    self.assertIs(seen.is_run(writes, order), order in runs)


class Told(unittest.TestCase):
    WRITES = ("ab", "aab", "aba", "abb", "abc", "abab", "baab", "abca")

    def each(self):
        """Of each of the WRITES: the Programs with each set of at most 3 of all flushes, and what each one shows."""
        for text in self.WRITES:
            writes = tuple(text)
            programs = [Program(brute.deeds_with(writes, some)) for some in subsets(brute.all_flushes(writes), 3)]
            known = {}
            for program in programs:
                known.setdefault(table_of(program), shown_by(program.deeds))
            yield writes, [(program, known[table_of(program)]) for program in programs], known

    def test_seen(self):
        rng = random.Random(11)
        for writes, programs, known in self.each():
            runs = runs_of(writes)
            single = {flush: shown_by(brute.deeds_with(writes, (flush,))) for flush in brute.all_flushes(writes)}
            for _ in range(25):
                chosen = rng.choice([runs, sorted(rng.choice(programs)[1])])
                told = [rng.choice(chosen) for _ in range(rng.randrange(4))]
                self.check_seen(writes, programs, known, single, told)

    def check_seen(self, writes, programs, known, single, told):
        own = seen.Seen(writes)
        gone = set()
        for run in told:
            wrong = {flush for flush, shown in single.items() if run not in shown}
            self.assertEqual(own.tell(run), tuple(sorted(wrong - gone)))
            gone |= wrong
        self.assertEqual((own.refuted(), own.runs), (tuple(sorted(gone)), tuple(told)))
        left = {flush for flush in single if flush not in gone and not brute.is_no_mark(writes, flush)}
        self.assertEqual(own.left(), tuple(sorted(left)))
        fit = {table for table, shown in known.items() if shown.issuperset(told)}
        self.assertEqual(own.how_many(), len(fit))
        surest = own.surest()
        self.assertEqual(surest, lean(surest))
        self.assertEqual(set(marks(surest)), left)
        for program, shown in programs[::3]:
            self.check_fits(own, program, shown, told)
            if own.fits(program):
                self.assertTrue(set(marks(program)) <= left)
        for wrong in [flush for flush in single if flush not in gone]:
            self.assertIs(own.fits(Program(brute.deeds_with(writes, (wrong,)))), True)

    def check_fits(self, own, program, shown, told):
        self.assertIs(own.fits(program), shown.issuperset(told))
        why = own.why_not(program)
        if own.fits(program):
            self.assertIsNone(why)
            return
        place = [run in shown for run in told].index(False)
        sure = brute.sure_pairs(brute.outputs(program.deeds))
        lacks = [(line, first) for at, line in enumerate(told[place]) for first in sorted(program.lines)
                 if (first, line) in sure and first not in told[place][:at]]
        self.assertEqual(why, (place, *lacks[0]))

    def test_lazy_runs_tell_tables(self):
        for writes, programs, known in self.each():
            streams = sorted(set(writes))
            found = {}
            for program, _ in programs:
                lazy = tuple(seen.lazy_run(program, stream) for stream in streams)
                self.assertEqual(lazy, tuple(self.lazy(program.deeds, stream) for stream in streams))
                found.setdefault(lazy, set()).add(table_of(program))
                self.assertEqual(seen.read_runs(writes, lazy), lean(program))
            self.assertEqual(len(found), len(known))
            self.assertTrue(all(len(tables) == 1 for tables in found.values()))
            outputs = [run for run in runs_of(writes) if len(run) == len(writes)]
            for runs in product(outputs, repeat=len(streams)):
                if runs not in found:
                    self.assertIsNone(seen.read_runs(writes, runs))

    def lazy(self, deeds, stream):
        """The screen if this stream lets out at its flushes alone, and each other one at once."""
        out, held, written = [], [], {}
        for word, name in deeds:
            if word == "write":
                written[name] = written.get(name, 0) + 1
                (held if name == stream else out).append((name, written[name]))
            elif name == stream:
                out, held = out + held, []
        return tuple(out + held)


class Stopped(unittest.TestCase):
    def deeds(self):
        yield from brute.all_deeds("ab", 4)
        yield from [deeds for deeds in brute.all_deeds("ab", 5) if len(deeds) == 5][::4]
        for counts in ({"a": 2, "b": 2}, {"a": 1, "b": 1, "c": 1}, {"a": 3, "b": 1}, {"a": 1, "b": 1, "c": 2}):
            yield from list(brute.programs_with(counts))[::13]

    def test_screens(self):
        known = {}
        for deeds in self.deeds():
            program = Program(deeds)
            screens = brute.screens_at(deeds)
            shown = frozenset().union(*screens) | brute.outputs(deeds)
            if program.writes not in known:
                known[program.writes] = runs_of(program.writes)
            runs = known[program.writes]
            self.assertLessEqual(shown, set(runs))
            self.check_runs(program, screens, shown, runs)
            self.check_numbers(program, screens, shown, runs)
            self.check_lines(program, shown)

    def check_runs(self, program, screens, shown, runs):
        sure = brute.sure_pairs(brute.outputs(program.deeds))
        written = [set(Program(program.deeds[:place]).lines) for place in range(len(program) + 1)]
        for run in runs:
            self.assertIs(killed.can_show(program, run), run in shown)
            stops = [place for place, own in enumerate(screens) if run in own]
            for place in range(len(program) + 1):
                self.assertIs(killed.can_show_at(program, place, run), place in stops)
            lacks = [(line, own) for place, line in enumerate(run) for own in sorted(program.lines)
                     if (own, line) in sure and own not in run[:place]]
            self.assertEqual(killed.lacking(program, run), lacks[0] if lacks else None)
            if run in shown:
                self.assertEqual(list(range(stops[0], stops[-1] + 1)), stops)
                self.assertEqual(killed.stops_of(program, run), (stops[0], stops[-1]))
                lost = set.intersection(*[written[place] for place in stops]) - set(run)
                self.assertEqual(killed.lost_with(program, run), tuple(sorted(lost)))
            else:
                for ask in (killed.stops_of, killed.lost_with):
                    with self.assertRaises(NoRun):
                        ask(program, run)

    def check_numbers(self, program, screens, shown, runs):
        self.assertEqual(killed.how_many_runs(program), len(shown))
        self.assertEqual(killed.how_many_sets(program), len({frozenset(run) for run in shown}))
        rows = sorted(shown)
        self.assertEqual([killed.nth_run(program, number) for number in range(len(rows))], rows)
        for run in runs:
            self.assertEqual(killed.number_of_run(program, run), rows.index(run) if run in shown else None)
        for number in (-1, len(rows)):
            with self.assertRaises(NoNumber):
                killed.nth_run(program, number)
        for place, own in enumerate(screens):
            self.assertEqual(killed.how_many_runs_at(program, place), len(own))
            self.assertEqual(killed.surely_at(program, place),
                             tuple(sorted(frozenset.intersection(*map(frozenset, own)))))

    def check_lines(self, program, shown):
        for some in subsets(program.lines, 2):
            having = [set(run) for run in shown if set(some) <= set(run)]
            self.assertEqual(killed.shown_with(program, some[::-1] + some[:1]),
                             tuple(sorted(set.intersection(*having))))
        for one, other in product(program.lines, repeat=2):
            fit = any(one in run and other not in run for run in shown)
            self.assertIs(killed.seen_without(program, one, other), fit)


if __name__ == "__main__":
    unittest.main()
