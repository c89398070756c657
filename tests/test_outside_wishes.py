"""Wishes [10], held against all sets of SPOTs and all sets of flushes of small Programs."""

import random
import unittest
from itertools import combinations, product

import brute
from lateshown import wishes as ask
from lateshown.errors import NoNumber
from lateshown.programs import Program
from lateshown.tables import flushes_needed, is_sure, table_of

TEXTS = (
    "a b", "a b a b", "a b !a a b", "!a a !b b a", "a b c", "b a a b !b b", "a !a !a b !b", "a a b b", "!c a b a",
    "c a b a",
    "a b c a", "a b !b c", "a a", "a", "-", "!a", "a b b a b", "b a b !b a",
)


def subsets(things, most=None):
    """All tuples of some of the things, in their order."""
    for many in range(len(things) + 1 if most is None else most + 1):
        yield from combinations(things, many)


def wishes_of(program):
    """The list of all wishes, in the words of the document."""
    lines = program.lines
    return sorted((one, other) for one, other in combinations(lines, 2) if one[0] != other[0])


def kept_by(program):
    """The set of the wishes that the Program keeps: those of which the first one is surely before, by its TABLE."""
    table = table_of(program)
    return frozenset(wish for wish in wishes_of(program) if is_sure(table, *wish))


def with_flushes(program, spots):
    """The Program with flushes at these SPOTs."""
    deeds = []
    for place in range(len(program) + 1):
        deeds.extend(("flush", stream) for stream, at in sorted(spots) if at == place)
        deeds.extend(program.deeds[place:place + 1])
    return Program(deeds)


class Spots:
    """What each set of SPOTs keeps."""

    def __init__(self, text):
        self.program = Program.of(text)
        self.row = [(stream, place) for stream in self.program.streams for place in range(len(self.program) + 1)]
        self.wishes = wishes_of(self.program)
        self.done = kept_by(self.program)
        alone = {spot: kept_by(with_flushes(self.program, [spot])) for spot in self.row}
        self.alone = alone
        self.sets = {spots: self.done.union(*[alone[spot] for spot in spots]) for spots in subsets(self.row)}

    def fit(self, wishes):
        return [spots for spots, own in self.sets.items() if own.issuperset(wishes)]

    def prices(self, rng):
        size = len(self.program) + 1
        return tuple((stream, tuple(rng.choice((0, 1, 1, 2, 3, 5, 8)) for _ in range(size)))
                     for stream in self.program.streams if rng.random() < 0.7)

    def price(self, prices, spots):
        rows = dict(prices)
        return sum(rows[stream][place] if stream in rows else 1 for stream, place in spots)

    def some_wishes(self, rng):
        """All sets of wishes if there are few, otherwise some of them; in any order, with some twice."""
        chosen = list(subsets(self.wishes))
        if len(chosen) > 9:
            chosen = [(), tuple(self.wishes)] + rng.sample(chosen, 7)
        for own in chosen:
            shuffled = list(own) + list(own[:rng.randrange(2)])
            rng.shuffle(shuffled)
            yield tuple(shuffled)


class AllSets(unittest.TestCase):
    @classmethod
    def setUpClass(cls):
        cls.told = [Spots(text) for text in TEXTS if (len(text.split()) + 1) * len(set(text) & set("abc")) <= 15]

    def each(self):
        rng = random.Random(7)
        for told in self.told:
            for wishes in told.some_wishes(rng):
                yield rng, told, wishes

    def test_what_sets_of_flushes_keep_is_what_each_of_them_keeps(self):
        for told in self.told:
            for spots in subsets(told.row, 3):
                whole = with_flushes(told.program, spots)
                self.assertEqual(kept_by(whole), told.sets[spots])
                self.assertEqual(ask.put_in(told.program, spots[::-1] + spots[:1]), whole)

    def test_all_wishes_and_those_kept(self):
        for _, told, wishes in self.each():
            self.assertEqual(ask.all_wishes(told.program), tuple(told.wishes))
            self.assertEqual(ask.kept(told.program, wishes), tuple(sorted(told.done & set(wishes))))
            lines = told.program.lines
            for pair in product(lines + (("a", 9), ("z", 1)), repeat=2):
                self.assertIs(ask.is_wish(told.program, pair), pair in told.wishes)

    def test_fewest(self):
        for _, told, wishes in self.each():
            fit = told.fit(wishes)
            few = min(len(spots) for spots in fit)
            least = sorted(spots for spots in fit if len(spots) == few)
            self.assertEqual(ask.how_few(told.program, wishes), few)
            self.assertIn(ask.fewest(told.program, wishes), least)
            self.assertEqual(ask.how_many_fewest(told.program, wishes), len(least))
            self.assertEqual([ask.nth_fewest(told.program, wishes, number) for number in range(len(least))], least)
            for number in (-1, len(least)):
                with self.assertRaises(NoNumber):
                    ask.nth_fewest(told.program, wishes, number)

    def test_apart(self):
        for _, told, wishes in self.each():
            few = ask.how_few(told.program, wishes)
            self.assertIs(ask.is_apart(told.program, wishes, ask.apart(told.program, wishes)), True)
            many = 0
            for some in subsets(told.wishes, 3):
                open_still = set(some) <= set(wishes) - told.done
                alone = all(len(own & set(some)) <= 1 for own in told.alone.values())
                fit = open_still and alone and len(some) == few
                many += fit
                self.assertIs(ask.is_apart(told.program, wishes, some), fit)
            if few <= 3:
                self.assertGreater(many, 0)

    def test_prices(self):
        for rng, told, wishes in self.each():
            for _ in range(3):
                prices = told.prices(rng)
                least = min(told.price(prices, spots) for spots in told.fit(wishes))
                self.assertEqual(ask.least_cost(told.program, wishes, prices), least)
                spots = ask.cheapest(told.program, wishes, prices)
                self.assertEqual(told.price(prices, spots), least)
                self.assertIn(spots, told.fit(wishes))
                self.check_weights(told, wishes, prices, least)

    def fit_as_weights(self, told, wishes, prices, least, pairs):
        own = [wish for wish, _ in pairs]
        if not set(own) <= set(wishes) - told.done or own != sorted(set(own)):
            return False
        if sum(weight for _, weight in pairs) != least or any(weight < 1 for _, weight in pairs):
            return False
        return all(sum(weight for wish, weight in pairs if wish in keeps) <= told.price(prices, [spot])
                   for spot, keeps in told.alone.items())

    def check_weights(self, told, wishes, prices, least):
        weighed = ask.weights(told.program, wishes, prices)
        self.assertTrue(self.fit_as_weights(told, wishes, prices, least, weighed))
        self.assertIs(ask.is_weights(told.program, wishes, prices, weighed), True)
        for some in subsets(told.wishes[:3], 2):
            for numbers in product(range(4), repeat=len(some)):
                pairs = tuple(zip(some, numbers))
                self.assertIs(ask.is_weights(told.program, wishes, prices, pairs),
                              self.fit_as_weights(told, wishes, prices, least, pairs))
        for place, (wish, weight) in enumerate(weighed):
            for other in (weight - 1, weight + 1):
                bent = weighed[:place] + ((wish, other),) + weighed[place + 1:]
                self.assertIs(ask.is_weights(told.program, wishes, prices, bent), False)

    def test_fines(self):
        for rng, told, wishes in self.each():
            for _ in range(3):
                prices = told.prices(rng)
                fines = tuple((wish, rng.choice((0, 1, 2, 4, 9))) for wish in sorted(set(wishes), key=str)[::-1])
                loss = {
                    spots: told.price(prices, spots) + sum(fine for wish, fine in fines if wish not in own)
                    for spots, own in told.sets.items()
                }
                self.assertEqual(ask.least_loss(told.program, fines, prices), min(loss.values()))
                self.assertEqual(loss[ask.best_loss(told.program, fines, prices)], min(loss.values()))

    def test_most_with_so_many(self):
        for _, told, wishes in self.each():
            for many in (0, 1, 2, 3, 40):
                number = {spots: len(own & set(wishes)) for spots, own in told.sets.items() if len(spots) <= many}
                self.assertEqual(ask.most_kept(told.program, wishes, many), max(number.values()))
                self.assertEqual(number[ask.most_spots(told.program, wishes, many)], max(number.values()))
            gains = [ask.most_kept(told.program, wishes, many) for many in range(6)]
            for one, other, third in zip(gains, gains[1:], gains[2:]):
                self.assertGreaterEqual(other - one, third - other)

    def test_none_of_others(self):
        for rng, told, wishes in self.each():
            for others in told.some_wishes(rng):
                fit = [spots for spots, own in told.sets.items()
                       if own.issuperset(wishes) and not own & set(others)]
                spots = ask.fewest_beside(told.program, wishes, others)
                if fit:
                    self.assertIn(spots, fit)
                    self.assertEqual(len(spots), min(map(len, fit)))
                else:
                    self.assertIsNone(spots)


class LeftOut(unittest.TestCase):
    def programs(self):
        for deeds in brute.all_deeds("ab", 6):
            yield Program(deeds)
        rng = random.Random(3)
        words = ["a", "b", "c", "!a", "!b", "!c"]
        for _ in range(300):
            yield Program.of(" ".join(rng.choice(words) for _ in range(rng.randrange(7, 13))))

    def test_flushes_that_are_left_out(self):
        for program in self.programs():
            table = table_of(program)
            flushes = [place for place, deed in enumerate(program.deeds) if deed[0] == "flush"]
            spare, stay = [], []
            for gone in subsets(flushes):
                deeds = [deed for place, deed in enumerate(program.deeds) if place not in gone]
                if table_of(Program(deeds)) == table:
                    spare.append(gone)
                    stay.append((len(flushes) - len(gone), tuple(own for own in flushes if own not in gone), deeds))
            self.assertEqual(ask.idle_flushes(program), [gone[0] for gone in spare if len(gone) == 1], program.text)
            self.assertEqual(ask.how_many_spare(program), len(spare), program.text)
            many, _, deeds = min(stay)
            self.assertEqual(ask.thinned(program), Program(deeds), program.text)
            self.assertEqual(many, flushes_needed(table))


class Following(unittest.TestCase):
    WRITES = ("a", "ab", "aab", "aba", "abab", "aabb", "abc", "abca", "abba")

    def each(self):
        """Of each of the WRITES, all sets of wishes that some Program with these keeps."""
        for writes in self.WRITES:
            flushes = brute.all_flushes(tuple(writes))
            found = {kept_by(Program(brute.deeds_with(tuple(writes), some))): some for some in subsets(flushes, 5)}
            yield tuple(writes), found

    def test_forced(self):
        rng = random.Random(1)
        for writes, found in self.each():
            for some in found.values():
                program = Program(brute.deeds_with(writes, some))
                wishes = wishes_of(program)
                chosen = list(subsets(wishes))
                for own in rng.sample(chosen, min(len(chosen), 12)):
                    fit = [kept for kept in found if kept.issuperset(own)]
                    self.assertEqual(ask.forced(program, own[::-1] + own[:1]),
                                     tuple(sorted(frozenset.intersection(*fit))))

    def test_least_wishes(self):
        for writes, found in self.each():
            for kept, some in found.items():
                program = Program(brute.deeds_with(writes, some + some))
                least = ask.least_wishes(program)
                self.assertEqual(least, tuple(sorted(
                    (one, other) for one, other in kept
                    if not any(own[0][0] == one[0] and own[0][1] > one[1] and own[1] == other for own in kept)
                    and not any(own[0] == one and program.lines.index(own[1]) < program.lines.index(other)
                                for own in kept))))
                self.assertEqual(len(least), flushes_needed(table_of(program)))
                self.assertEqual(ask.forced(program, least), tuple(sorted(kept)))
                for few in subsets(sorted(kept), len(least) - 1 if least else 0):
                    if len(few) < len(least):
                        self.assertNotEqual(ask.forced(program, few), tuple(sorted(kept)))


if __name__ == "__main__":
    unittest.main()
