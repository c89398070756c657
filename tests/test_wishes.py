"""Wishes and flushes that are put in [10]: edges, wrong inputs, great Programs, and the general rules."""

import random
import unittest

from asking import check_call, check_raises, listed
from lateshown import wishes as ask
from lateshown.errors import NoNumber, NoSpot, NoWish
from lateshown.programs import Program
from lateshown.tables import flushes_needed, is_sure, table_of

PLAIN = Program.of("a b a b a b")
FIRST, EARLY, BOTH, LATE = (
    (("a", 1), ("b", 1)), (("a", 1), ("b", 2)), (("a", 2), ("b", 2)), (("a", 2), ("b", 3)))
WHOLE, OTHER = (("a", 1), ("b", 3)), (("b", 1), ("a", 3))
NONE = (("a", 2), ("b", 1))
# Each function with wishes: what it is asked beside the Program and the wishes, and what it answers if there are none.
WITH_WISHES = {
    "kept": ({}, ()), "how_few": ({}, 0), "fewest": ({}, ()), "apart": ({}, ()), "is_apart": ({"thing": ()}, True),
    "how_many_fewest": ({}, 1), "nth_fewest": ({"number": 0}, ()), "least_cost": ({"prices": ()}, 0),
    "cheapest": ({"prices": ()}, ()), "weights": ({"prices": ()}, ()),
    "is_weights": ({"prices": (), "thing": ()}, True),
    "most_kept": ({"many": 3}, 0), "most_spots": ({"many": 3}, ()), "fewest_beside": ({"others": ()}, ()),
    "forced": ({}, ()),
}


class Edges(unittest.TestCase):
    def test_no_wishes(self):
        for program in (PLAIN, Program(), Program.of("!a !b"), Program.of("a !a a"), Program.of("a !a b !b")):
            for name, (more, answer) in WITH_WISHES.items():
                self.assertEqual(getattr(ask, name)(program, (), *more.values()), answer, name)
            self.assertEqual((ask.least_loss(program, (), ()), ask.best_loss(program, (), ())), (0, ()))

    def test_programs_without_lines_or_flushes(self):
        for text, spare, idle in (("-", 1, []), ("!a", 2, [0]), ("!a !b !a", 8, [0, 1, 2]), ("a b a", 1, [])):
            program = Program.of(text)
            self.assertEqual((ask.how_many_spare(program), ask.idle_flushes(program)), (spare, idle))
            self.assertEqual(ask.least_wishes(program), ())
        self.assertEqual((ask.thinned(Program.of("!a !b !a")), ask.put_in(Program(), ())), (Program(), Program()))
        self.assertEqual((ask.all_wishes(Program.of("a a !a")), ask.all_wishes(Program())), ((), ()))

    def test_what_is_a_wish(self):
        self.assertIs(ask.is_wish(PLAIN, FIRST), True)
        for thing in (NONE, (("a", 1), ("a", 2)), (("a", 1), ("a", 1)), (("b", 1), ("a", 1)), (("a", 1), ("c", 1)),
                      (("a", 1), ("b", 4)), (("a", 0), ("b", 1)), list(FIRST), (["a", 1], ("b", 1)),
                      (("a", 1), ["b", 1]), (("a", True), ("b", 1)), (("a", 1), ("b", True)), FIRST + (("b", 2),),
                      (("a", 1),), (), None, True, 1, "ab", PLAIN, (PLAIN, PLAIN), ("a", "b"), (None, ("b", 1)),
                      ((), ())):
            self.assertIs(ask.is_wish(PLAIN, thing), False, thing)

    def test_the_same_wish_twice_is_there_once(self):
        once = ask.most_kept(PLAIN, (FIRST, EARLY), 1)
        self.assertEqual(ask.most_kept(PLAIN, (FIRST, EARLY, FIRST, EARLY, EARLY), 1), once)
        self.assertEqual(ask.apart(PLAIN, (BOTH, BOTH)), (BOTH,))
        self.assertEqual(ask.kept(Program.of("a !a b"), (FIRST, FIRST)), (FIRST,))
        self.assertEqual(ask.weights(PLAIN, (BOTH, BOTH), (("a", (9,) * 7),)), ((BOTH, 9),))
        self.assertEqual(ask.how_many_fewest(PLAIN, (WHOLE, WHOLE)), 5)

    def test_wishes_that_are_kept_already(self):
        done = Program.of("a !a b a b a b")
        wishes = (FIRST, WHOLE, FIRST)
        self.assertEqual(ask.kept(done, wishes), (FIRST, WHOLE))
        self.assertEqual((ask.how_few(done, wishes), ask.fewest(done, wishes), ask.apart(done, wishes)), (0, (), ()))
        self.assertEqual((ask.how_many_fewest(done, wishes), ask.nth_fewest(done, wishes, 0)), (1, ()))
        self.assertEqual([ask.most_kept(done, wishes + (BOTH,), many) for many in (0, 1, 40)], [2, 3, 3])
        self.assertEqual((ask.least_loss(done, ((FIRST, 5), (BOTH, 2)), (("a", (3,) * 8),))), 2)
        self.assertEqual(ask.weights(done, wishes, ()), ())
        self.assertIs(ask.is_weights(done, wishes, (), ((FIRST, 1),)), False)
        self.assertIs(ask.is_apart(done, wishes, (FIRST,)), False)
        self.assertIsNone(ask.fewest_beside(done, (), (FIRST,)))
        self.assertIsNone(ask.fewest_beside(done, wishes, (WHOLE,)))
        self.assertEqual(ask.fewest_beside(done, wishes, (BOTH,)), ())

    def test_forced_asks_for_the_writes_alone(self):
        self.assertEqual(ask.forced(PLAIN, (EARLY,)), (EARLY, WHOLE))
        self.assertEqual(ask.forced(Program.of("a !a b !b a b !a a b"), (EARLY,)), (EARLY, WHOLE))
        self.assertEqual(ask.forced(PLAIN, (OTHER, BOTH)), (EARLY, WHOLE, BOTH, LATE, OTHER))

    def test_spots(self):
        self.assertEqual(ask.put_in(PLAIN, ()), PLAIN)
        self.assertEqual(ask.put_in(PLAIN, (("b", 6), ("a", 0), ("b", 0), ("a", 6), ("b", 6))).text,
                         "!a !b a b a b a b !a !b")
        self.assertEqual(ask.put_in(Program.of("b !b a"), (("b", 1), ("a", 1), ("b", 2))).text, "b !a !b !b !b a")
        self.assertEqual(ask.put_in(Program.of("a !c"), (("a", 2), ("a", 1))).text, "a !a !c !a")
        full = ask.put_in(PLAIN, [(stream, place) for stream in "ab" for place in range(7)] * 2)
        self.assertEqual(full.text, " ".join(["!a !b " + stream for stream in "ababab"] + ["!a !b"]))

    def test_spots_that_cost_nothing(self):
        free = (("a", (0,) * 7), ("b", (0,) * 7))
        self.assertEqual(ask.least_cost(PLAIN, (WHOLE, OTHER, BOTH), free), 0)
        self.assertEqual(ask.weights(PLAIN, (WHOLE, OTHER, BOTH), free), ())
        self.assertIs(ask.is_weights(PLAIN, (BOTH,), free, ()), True)
        self.assertIs(ask.is_weights(PLAIN, (BOTH,), free, ((BOTH, 1),)), False)
        spots = ask.cheapest(PLAIN, (WHOLE, OTHER, BOTH), free)
        self.assertEqual(ask.kept(ask.put_in(PLAIN, spots), (WHOLE, OTHER, BOTH)), (WHOLE, BOTH, OTHER))
        self.assertEqual(ask.least_loss(PLAIN, ((BOTH, 10 ** 30),), free), 0)

    def test_fines_of_nothing(self):
        self.assertEqual(ask.least_loss(PLAIN, ((BOTH, 0), (WHOLE, 0)), ()), 0)
        self.assertEqual(ask.best_loss(PLAIN, ((BOTH, 0), (WHOLE, 0)), ()), ())
        # To be fined is as good as to pay, and no better.
        self.assertEqual(ask.least_loss(PLAIN, ((BOTH, 1),), ()), 1)
        self.assertEqual([ask.least_loss(PLAIN, ((BOTH, fine), (LATE, fine)), ()) for fine in (0, 1, 9)], [0, 1, 1])

    def test_streams_without_a_price(self):
        prices = (("b", (7,) * 7),)
        self.assertEqual(ask.least_cost(PLAIN, (FIRST, OTHER), prices), 8)
        self.assertEqual(ask.least_cost(PLAIN, (FIRST,), prices), 1)
        self.assertEqual(ask.least_cost(PLAIN, (FIRST, OTHER), ()), 2)

    def test_many_of_none_and_of_forty(self):
        wishes = (FIRST, EARLY, BOTH, LATE, OTHER)
        self.assertEqual([ask.most_kept(PLAIN, wishes, many) for many in (0, 1, 2, 3, 40)], [0, 3, 4, 5, 5])
        self.assertEqual(ask.most_spots(PLAIN, wishes, 0), ())
        spots = ask.most_spots(PLAIN, wishes, 40)
        self.assertEqual(len(ask.kept(ask.put_in(PLAIN, spots), wishes)), 5)

    def test_the_spot_behind_all_deeds(self):
        self.assertEqual(ask.put_in(Program.of("a b"), (("a", 2),)).text, "a b !a")
        prices = (("a", (9, 9, 0)),)
        self.assertEqual(ask.least_cost(Program.of("a b"), (FIRST,), prices), 9)
        self.assertEqual(ask.cheapest(Program.of("a b"), (FIRST,), prices), (("a", 1),))

    def test_wishes_beside_others(self):
        self.assertIsNone(ask.fewest_beside(PLAIN, (BOTH,), (EARLY,)))
        self.assertIsNone(ask.fewest_beside(PLAIN, (BOTH,), (BOTH,)))
        self.assertEqual(ask.fewest_beside(PLAIN, (), (BOTH, EARLY)), ())
        # A wish of another stream bars nothing.
        self.assertEqual(len(ask.fewest_beside(PLAIN, (BOTH,), (OTHER,))), 1)

    def test_flushes_of_streams_without_lines_are_idle(self):
        program = Program.of("!c a !c !a b !c !b a")
        self.assertEqual(ask.idle_flushes(program), [0, 2, 5])
        self.assertEqual(ask.how_many_spare(program), 8)
        self.assertEqual(ask.thinned(program).text, "a !a b !b a")

    def test_of_several_flushes_the_first_stays(self):
        self.assertEqual(ask.thinned(Program.of("a !b !a !a b !a !b b")).text, "a !a b b")
        self.assertEqual(ask.thinned(Program.of("a b !b !a !b !a a b")).text, "a b !b !a a b")
        self.assertEqual(ask.thinned(Program.of("a !a a !a b")).text, "a a !a b")
        self.assertEqual(ask.how_many_spare(Program.of("a !a !a !a b !a")), 14)


class WrongInputs(unittest.TestCase):
    def test_no_wish(self):
        for name, (more, _) in WITH_WISHES.items():
            given = [NONE if key in ("thing", "others") else worth for key, worth in more.items()]
            for wishes, wrong in (((FIRST, NONE, OTHER, (("a", 9), ("b", 1))), NONE), ((NONE, FIRST), NONE),
                                  (((("a", 1), ("a", 2)), NONE), (("a", 1), ("a", 2))),
                                  (((("a", 0), ("b", 1)),), (("a", 0), ("b", 1)))):
                if name in ("is_apart", "is_weights"):
                    with self.assertRaises(NoWish) as caught:
                        getattr(ask, name)(PLAIN, listed(wishes), *given)
                    self.assertEqual(caught.exception.wish, wrong)
                else:
                    check_raises(self, NoWish(wrong), getattr(ask, name), PLAIN, wishes, *given)

    def test_no_wish_among_fines_and_others(self):
        for name in ("least_loss", "best_loss"):
            check_raises(self, NoWish(NONE), getattr(ask, name), PLAIN,
                         ((FIRST, 2), (NONE, 1), ((("b", 3), ("a", 1)), 0)), ())
        check_raises(self, NoWish(NONE), ask.fewest_beside, PLAIN, (FIRST,), (FIRST, NONE))
        check_raises(self, NoWish(WHOLE[::-1]), ask.fewest_beside, PLAIN, (WHOLE[::-1],), (NONE,))
        # Also where one of others is kept, or one of the wishes cannot be.
        check_raises(self, NoWish(NONE), ask.fewest_beside, Program.of("a !a b a b"), (FIRST,), (FIRST, NONE))

    def test_no_wish_comes_ahead_of_no_number(self):
        check_raises(self, NoWish(NONE), ask.nth_fewest, PLAIN, (NONE,), -1)

    def test_no_number(self):
        for number in (-1, 5, 10 ** 40, -10 ** 40):
            check_raises(self, NoNumber(number), ask.nth_fewest, PLAIN, (WHOLE,), number)
        for number in (-1, 1):
            check_raises(self, NoNumber(number), ask.nth_fewest, PLAIN, (), number)

    def test_no_spot(self):
        for spot in (("a", 7), ("a", -1), ("c", 0), ("b", 10 ** 40)):
            check_raises(self, NoSpot(spot), ask.put_in, PLAIN, (("a", 6), spot, ("z", 1)))
        check_raises(self, NoSpot(("a", 0)), ask.put_in, Program.of("!a b"), (("a", 0),))
        check_raises(self, NoSpot(("a", 0)), ask.put_in, Program(), (("a", 0),))


class Things(unittest.TestCase):
    def test_what_is_apart(self):
        wishes = (LATE, FIRST, EARLY, BOTH)
        self.assertIs(ask.is_apart(PLAIN, wishes, (FIRST, BOTH)), True)
        for thing in ((BOTH, FIRST), [FIRST, BOTH], (list(FIRST), BOTH), ((["a", 1], ("b", 1)), BOTH), (FIRST,), (),
                      (FIRST, EARLY), (FIRST, BOTH, BOTH), (FIRST, WHOLE), ((("a", True), ("b", 1)), BOTH), None, True,
                      2,
                      "ab", PLAIN, (PLAIN, BOTH), (1, 2), (None, None), ((), ()), (((), ()), BOTH)):
            self.assertIs(ask.is_apart(PLAIN, wishes, thing), False, thing)

    def test_what_are_weights(self):
        prices = (("a", (5, 5, 2, 9, 1, 5, 5)),)
        wishes = (EARLY, LATE)
        self.assertIs(ask.is_weights(PLAIN, wishes, prices, ((EARLY, 2), (LATE, 1))), True)
        self.assertIs(ask.is_weights(PLAIN, wishes, (("a", (1,) * 7),), ((EARLY, 1),)), True)
        self.assertIs(ask.is_weights(PLAIN, wishes, (("a", (1,) * 7),), ((EARLY, True),)), False)
        for wish in ((("a", 1), ("b", True)), (("a", True), ("b", 1)), (["a", 1], ("b", 1)), (("a", 1), ["b", 1])):
            self.assertIs(ask.is_weights(PLAIN, (FIRST,), (), ((wish, 1),)), False)
            self.assertIs(ask.is_apart(PLAIN, (FIRST,), (wish,)), False)
        self.assertIs(ask.is_apart(PLAIN, (FIRST,), (FIRST,)), True)
        for thing in ([(EARLY, 2), (LATE, 1)], ((LATE, 1), (EARLY, 2)), ([EARLY, 2], (LATE, 1)), ((EARLY, 2),),
                      ((EARLY, 3),),
                      ((EARLY, 1), (LATE, 1)), ((EARLY, 2), (LATE, 1), (LATE, 1)), ((EARLY, 2), (WHOLE, 1)),
                      ((EARLY, 3), (LATE, 0)), ((EARLY, 4), (LATE, -1)), ((EARLY, 2), (BOTH, 1)), (), None, True, 3,
                      "x",
                      ((EARLY, 2, 1),), (EARLY, 2), ((list(EARLY), 2), (LATE, 1)), ((EARLY, None), (LATE, 1)),
                      ((PLAIN, 2), (LATE, 1)), ((EARLY, 2), ((("a", 2), ("b", True)), 1))):
            self.assertIs(ask.is_weights(PLAIN, wishes, prices, thing), False, thing)


class Great(unittest.TestCase):
    def great(self, seed):
        rng = random.Random(seed)
        deeds = [(rng.choice(("write",) * 4 + ("flush",)), rng.choice("abcde")) for _ in range(60)]
        program = Program(deeds)
        wishes = rng.sample(ask.all_wishes(program), 40)
        rows = {stream: [rng.choice((0, rng.randrange(10 ** 30), 10 ** 30)) for _ in range(61)] for stream in "abde"}
        prices = [(stream, tuple(row)) for stream, row in rows.items()]
        return rng, program, tuple(wishes), tuple(prices)

    def test_fewest_there_and_back(self):
        for seed in range(6):
            rng, program, wishes, _ = self.great(seed)
            many = ask.how_many_fewest(program, wishes)
            last = None
            for number in sorted({0, 1, many // 3, many - 2, many - 1} | {rng.randrange(many) for _ in range(9)}):
                spots = ask.nth_fewest(program, wishes, number)
                self.assertEqual(len(spots), ask.how_few(program, wishes))
                self.assertEqual(spots, tuple(sorted(set(spots))))
                self.assertEqual(ask.put_in(program, spots).lines, program.lines)
                self.assertEqual(ask.how_few(ask.put_in(program, spots), wishes), 0)
                self.assertTrue(last is None or last < spots)
                last = spots
            check_raises(self, NoNumber(many), ask.nth_fewest, program, wishes, many)

    def test_many_fewest(self):
        program = Program.of(" ".join(["a"] * 12 + ["b"] * 12 + ["c"] * 12 + ["d"] * 12 + ["e"] * 12))
        wishes = tuple(((one, 1), (other, 12)) for one, other in ("ab", "bc", "cd", "de"))
        self.assertEqual(ask.how_many_fewest(program, wishes), 23 ** 4)
        self.assertEqual(ask.nth_fewest(program, wishes, 0), (("a", 1), ("b", 13), ("c", 25), ("d", 37)))
        self.assertEqual(ask.nth_fewest(program, wishes, 23 ** 4 - 1), (("a", 23), ("b", 35), ("c", 47), ("d", 59)))
        self.assertEqual(ask.nth_fewest(program, wishes, 23 ** 3 + 23), (("a", 2), ("b", 13), ("c", 26), ("d", 37)))

    def test_prices_and_weights(self):
        for seed in range(6):
            _, program, wishes, prices = self.great(seed)
            spots = ask.cheapest(program, wishes, prices)
            self.assertEqual(ask.kept(ask.put_in(program, spots), wishes), tuple(sorted(wishes)))
            rows = dict(prices)
            cost = sum(rows[stream][place] if stream in rows else 1 for stream, place in spots)
            self.assertEqual(ask.least_cost(program, wishes, prices), cost)
            # The weights show that it cannot cost less.
            weighed = ask.weights(program, wishes, prices)
            self.assertEqual(sum(weight for _, weight in weighed), cost)
            self.assertIs(ask.is_weights(program, wishes, prices, weighed), True)
            for stream in program.streams:
                for place in range(len(program) + 1):
                    own = ask.put_in(program, ((stream, place),))
                    sure = [weight for wish, weight in weighed if is_sure(table_of(own), *wish)]
                    self.assertLessEqual(sum(sure), rows[stream][place] if stream in rows else 1)

    def test_fines(self):
        for seed in range(6):
            rng, program, wishes, prices = self.great(seed)
            fines = tuple((wish, rng.choice((0, rng.randrange(10 ** 30), 10 ** 30))) for wish in wishes)
            spots = ask.best_loss(program, fines, prices)
            done = ask.kept(ask.put_in(program, spots), wishes)
            rows = dict(prices)
            cost = sum(rows[stream][place] if stream in rows else 1 for stream, place in spots)
            loss = cost + sum(fine for wish, fine in fines if wish not in done)
            self.assertEqual(ask.least_loss(program, fines, prices), loss)
            self.assertLessEqual(loss, ask.least_cost(program, wishes, prices))
            for wish, fine in fines:
                without = tuple(own for own in wishes if own != wish)
                self.assertLessEqual(loss, ask.least_cost(program, without, prices) + fine)

    def test_the_most_that_so_many_keep(self):
        for seed in range(4):
            _, program, wishes, _ = self.great(seed)
            few = ask.how_few(program, wishes)
            most = [ask.most_kept(program, wishes, many) for many in range(few + 2)]
            self.assertEqual((most[few], most[few + 1]), (40, 40))
            self.assertLess(most[few - 1], 40)
            gains = [more - less for less, more in zip(most, most[1:])]
            self.assertEqual(gains, sorted(gains, reverse=True))
            for many, number in enumerate(most):
                spots = ask.most_spots(program, wishes, many)
                self.assertLessEqual(len(spots), many)
                self.assertEqual(len(ask.kept(ask.put_in(program, spots), wishes)), number)

    def test_flushes_left_out(self):
        for seed in range(6):
            rng = random.Random(seed)
            program = Program([(rng.choice(("write", "flush")), rng.choice("abc")) for _ in range(60)])
            thin = ask.thinned(program)
            self.assertEqual(table_of(thin), table_of(program))
            self.assertEqual(len(thin) - len(thin.lines), flushes_needed(table_of(program)))
            self.assertEqual(ask.idle_flushes(thin), [])
            self.assertEqual(ask.how_many_spare(thin), 1)
            self.assertEqual(len(ask.least_wishes(program)), flushes_needed(table_of(program)))
        self.assertEqual(ask.how_many_spare(Program.of(" ".join(["!a", "!b"] * 30))), 2 ** 60)
        self.assertEqual(ask.how_many_spare(Program.of(" ".join(["a"] + ["!a"] * 50 + ["b"]))), 2 ** 50 - 1)

    def test_all_wishes_of_many_lines(self):
        program = Program.of(" ".join("abcdefgh" * 3))
        self.assertEqual(len(ask.all_wishes(program)), 24 * 23 // 2 - 8 * 3)
        given = ask.all_wishes(program)[:40]
        self.assertEqual(ask.forced(program, given), tuple(
            own for own in ask.all_wishes(program) if self.follows(program, given, own)))

    def follows(self, program, given, wish):
        """Whether one of these wishes has the same or less between its LINEs."""
        at = {line: place for place, line in enumerate(program.lines)}
        return any(one[0] == wish[0][0] and at[wish[0]] <= at[one] and at[other] <= at[wish[1]] for one, other in given)


class General(unittest.TestCase):
    def test_each_function(self):
        program = Program.of("a b !a a b !b a b !c")
        wishes = (BOTH, FIRST, LATE, BOTH)
        others = {"others": (OTHER,), "number": 0, "many": 2, "prices": (("a", (3, 1, 4, 1, 5, 9, 2, 6, 5, 3)),)}
        for name, (more, _) in WITH_WISHES.items():
            named = {"program": program, "wishes": wishes}
            for key, worth in more.items():
                named[key] = others.get(key, worth)
            if name == "is_apart":
                named["thing"] = ask.apart(program, wishes)
            if name == "is_weights":
                named["thing"] = ask.weights(program, wishes, others["prices"])
            check_call(self, getattr(ask, name), named)
        fines = tuple((wish, 2) for wish in wishes[:3])
        for name in ("least_loss", "best_loss"):
            check_call(self, getattr(ask, name), {"program": program, "fines": fines, "prices": others["prices"]})
        for name in ("all_wishes", "idle_flushes", "how_many_spare", "thinned", "least_wishes"):
            check_call(self, getattr(ask, name), {"program": program})
        check_call(self, ask.put_in, {"program": program, "spots": (("b", 9), ("a", 0), ("b", 9))})
        check_call(self, ask.is_wish, {"program": program, "thing": FIRST})

    def test_what_is_a_list(self):
        self.assertIs(type(ask.idle_flushes(PLAIN)), list)
        for answer in (ask.all_wishes(PLAIN), ask.kept(PLAIN, ()), ask.fewest(PLAIN, (BOTH,)), ask.least_wishes(PLAIN)):
            self.assertIs(type(answer), tuple)

    def test_other_programs_in_between(self):
        before = ask.fewest(PLAIN, (WHOLE, OTHER)), ask.weights(PLAIN, (WHOLE, OTHER), ())
        for text in ("b a b a b a", "a b !a a b a b", "-"):
            ask.fewest(Program.of(text), ())
            ask.weights(Program.of(text), (), ())
        self.assertEqual((ask.fewest(PLAIN, (WHOLE, OTHER)), ask.weights(PLAIN, (WHOLE, OTHER), ())), before)


if __name__ == "__main__":
    unittest.main()
