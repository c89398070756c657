"""The examples of sections 5 to 8 of the document, as they stand there."""

import importlib
import unittest

OUTPUTS = r"""
>>> first = Program.of("a b !a b")
>>> a, b, c = ("a", 1), ("b", 1), ("b", 2)
>>> is_output(first, (a, b, c)), is_output(first, (b, a, c)), is_output(first, (b, c, a)), is_output(first, [a, b, c]), is_output(first, (a, b)), is_start(first, (b,)), is_start(first, (c,)), is_start(first, ())
(True, True, False, False, False, True, False, True)
>>> broken_at(first, (b, c, a)), broken_at(first, (c, a, b)), broken_at(first, (b, a, c))
((1, ('a', 1)), (0, ('a', 1)), None)
>>> is_schedule(first, (b, a, c), (2, 2, 4)), is_schedule(first, (b, a, c), schedule(first, (b, a, c))), is_schedule(first, (b, a, c), (2, 3, 4)), is_schedule(first, (a, b, c), (1, 4, 4)), is_schedule(first, (a, b, c), [1, 2, 4])
(True, True, False, True, False)
>>> next_lines(first, ()), next_lines(first, (b,)), next_lines(first, (a, b, c)), last_lines(first), outputs_behind(first, (a,)), how_many_outputs(first), how_many_sets_seen(first)
((('a', 1), ('b', 1)), (('a', 1),), (), (('b', 2),), 1, 2, 5)
>>> output_at(first, 1), number_of_output(first, (a, b, c)), number_of_output(first, (b, c, a)), changes_of((b, a, c)), fewest_changes(first), most_changes(first), with_fewest_changes(first)
((('b', 1), ('a', 1), ('b', 2)), 0, None, 2, 1, 2, (('a', 1), ('b', 1), ('b', 2)))
>>> loose = Program.of("a a b b !c c")
>>> how_many_outputs(loose), how_many_sets_seen(loose), fewest_changes(loose), most_changes(loose), output_at(loose, 0), how_many_outputs(Program()), output_at(Program(), 0)
(30, 18, 2, 4, (('a', 1), ('a', 2), ('b', 1), ('b', 2), ('c', 1)), 1, ())
>>> next_lines(first, (b, c))
raises NoStart(place=1)
>>> output_at(first, 2)
raises NoNumber(number=2)
>>> schedule(first, (b, c, a))
raises NoOutput()
"""
PLACES = r"""
>>> first, loose = Program.of("a b !a b"), Program.of("a a b b !c c")
>>> a, b, c = ("a", 1), ("b", 1), ("b", 2)
>>> [places_of(first, line) for line in (a, b, c)], often_at(first, a), mean_place(first, a), mean_place(first, c), often_at(loose, c)
([(0, 1), (0, 1), (2, 2)], [(0, 1), (1, 1)], (1, 2), (2, 1), [(1, 3), (2, 6), (3, 9), (4, 12)])
>>> ahead_often(first, a, b), ahead_often(first, c, a), ahead_often(first, a, a), share_ahead(first, a, c), share_ahead(first, b, a), share_ahead(loose, a, ("c", 1)), share_ahead(loose, a, c)
(1, 0, 0, (1, 1), (1, 2), (2, 3), (5, 6))
>>> between(first, a, b), between(first, a, c), between(first, c, a), between(first, b, c), can_stand_between(first, a, c), can_stand_between(first, c, a)
((0, 0), (0, 1), None, (0, 1), (('b', 1),), ())
>>> can_be_neighbours(first, a, c), always_neighbours(first, a, b), always_neighbours(first, b, c), can_be_neighbours(first, a, a), between(loose, a, ("c", 1))
(True, True, False, False, (0, 3))
>>> sure_heads(first), pieces(first), sure_heads(loose), pieces(loose), sure_heads(Program()), pieces(Program())
((0, 2, 3), [(('a', 1), ('b', 1)), (('b', 2),)], (0, 5), [(('a', 1), ('a', 2), ('b', 1), ('b', 2), ('c', 1))], (0,), [])
>>> swaps(first, (a, b, c), (b, a, c)), far_apart(first, (a, b, c), (a, b, c)), far_apart(loose, (a, ("a", 2), b, c, ("c", 1)), (("c", 1), b, c, a, ("a", 2)))
([(('a', 1), ('b', 1), ('b', 2)), (('b', 1), ('a', 1), ('b', 2))], 0, 8)
>>> shows_all(first, ((a, b, c), (b, a, c))), shows_all(first, ((a, b, c),)), shows_all(first, showing(first)), shows_all(Program(), ()), showing(Program()), len(showing(loose)) <= 3
(True, False, True, True, ((),), True)
>>> places_of(first, ("a", 2))
raises NoLine(line=('a', 2))
>>> far_apart(first, (a, b, c), (b, c, a))
raises NoOutput()
"""
ORDER = r"""
>>> writes = ("a", "a", "b", "b")
>>> all_marks(writes), is_idle(writes, (0, "a")), is_idle(writes, (3, "b"))
(((1, 'a'), (2, 'a'), (3, 'a')), True, True)
>>> early, late = Program.of("a !a a b b"), Program.of("a a b !a b")
>>> marks(early), marks(late), marks(Program.of("a a !a b b")), has_mark(late, (2, "a")), has_mark(late, (3, "a"))
(((1, 'a'),), ((3, 'a'),), ((1, 'a'), (2, 'a'), (3, 'a')), False, True)
>>> join(early, late).text, meet(early, late).text, lean(Program.of("!a a !a !b a b !a !a b !b !a")).text, full(writes).text
('a !a a b !a b', 'a a b b', 'a !a a b !a b', 'a a !a b b')
>>> middle(early, late, full(writes)).text, rest(join(early, late), early).text, allowed(early, late).text, with_marks(writes, ((4, "a"), (2, "a"))).text
('a !a a b !a b', 'a a b !a b', 'a a b !a b', 'a a !a b b')
>>> standing(early, late), standing(join(early, late), early), standing(bare(writes), late), standing(late, late)
('apart', 'surer', 'looser', 'alike')
>>> [own.text for own in above(early)], [own.text for own in below(full(writes))], rank(full(writes)), distance(early, late), parting_mark(early, late)
(['a !a a b !a b'], ['a !a a b !a b'], 3, 2, (1, 'a'))
>>> is_way(early, late, way(early, late)), is_way(early, late, (early, bare(writes), late)), is_way(early, late, (early, late)), output_against(early, (1, "a"))
(True, True, False, None)
>>> join(early, Program.of("a b"))
raises OtherWrites()
"""
NUMBERS = r"""
>>> writes = ("a", "a", "b", "b")
>>> how_many_tables(writes), [nth_table(writes, number).text for number in range(5)], table_number(Program.of("a a b !a b !a")), how_many_tables(("e", "o", "o", "e")), how_many_tables(())
(5, ['a a b b', 'a a b !a b', 'a !a a b b', 'a !a a b !a b', 'a a !a b b'], 1, 9, 1)
>>> early, late = Program.of("a !a a b b"), Program.of("a a b !a b")
>>> how_many_surer(early), how_many_looser(early), how_many_between(bare(writes), late), how_many_between(early, late), nth_between(early, full(writes), 1).text
(3, 2, 2, 0, 'a !a a b !a b')
>>> of_ranks(writes), of_flushes(writes), how_many_ways(early, late), how_many_ways(bare(writes), full(writes)), how_many_ways(late, late)
([1, 2, 1, 1], [1, 3, 1], 2, 2, 1)
>>> how_many_alike(early), share_with(writes, (1, "a")), share_with(writes, (4, "a")), mean_rank(writes)
(128, (3, 5), (0, 1), (7, 5))
>>> nth_table(writes, 5)
raises NoNumber(number=5)
"""


def names_of(*modules):
    """What the examples use: all that these files of the package hold."""
    names = {}
    for module in ("programs", "errors", *modules):
        names.update(vars(importlib.import_module("lateshown." + module)))
    return names


class Examples(unittest.TestCase):
    def run_all(self, text, *modules):
        names = names_of(*modules)
        told = iter(text.strip().splitlines())
        asked = next(told)
        many = 0
        while asked is not None:
            answer = next(told, None)
            if answer is None or answer.startswith(">>> "):
                exec(asked.removeprefix(">>> "), names)
            else:
                self.check(asked.removeprefix(">>> "), answer, names)
                many += 1
                answer = next(told, None)
            asked = answer
        return many

    def check(self, asked, answer, names):
        if not answer.startswith("raises "):
            self.assertEqual(eval(asked, names), eval(answer, names), asked)
            return
        wanted = eval(answer.removeprefix("raises "), names)
        with self.assertRaises(type(wanted), msg=asked) as caught:
            eval(asked, names)
        self.assertEqual(vars(caught.exception), vars(wanted), asked)

    def test_outputs(self):
        self.assertEqual(self.run_all(OUTPUTS, "outputs"), 9)

    def test_places(self):
        self.assertEqual(self.run_all(PLACES, "places"), 9)

    def test_order(self):
        self.assertEqual(self.run_all(ORDER, "order"), 8)

    def test_numbers(self):
        self.assertEqual(self.run_all(NUMBERS, "order", "numbers"), 5)


if __name__ == "__main__":
    unittest.main()
