"""The examples of sections 5 to 15 of the document, as they stand there."""

import importlib
import unittest

OUTPUTS = r"""
>>> first = Program.of("a b !a b")
>>> a, b, c = ("a", 1), ("b", 1), ("b", 2)
>>> is_output(first, (a, b, c)), is_output(first, (b, a, c)), is_output(first, (b, c, a)), is_output(first, [a, b, c]), is_output(first, (a, b)), is_start(first, (b,)), is_start(first, (c,)), is_start(first, ())
(True, True, False, False, False, True, False, True)
>>> broken_at(first, (b, c, a)), broken_at(first, (c, a, b)), broken_at(first, (b, a, c))
((1, ('a', 1)), (0, ('a', 1)), None)
>>> is_schedule(first, (b, a, c), (2, 2, 4)), is_schedule(first, (b, a, c), schedule(first, (b, a, c))), is_schedule(first, (b, a, c), (2, 3, 4)), is_schedule(first, (a, b, c), (1, 4, 4)), is_schedule(first, (a, b, c), [1, 2, 4])
(True, True, False, True, False)
>>> next_lines(first, ()), next_lines(first, (b,)), next_lines(first, (a, b, c)), last_lines(first), outputs_behind(first, (a,)), how_many_outputs(first), how_many_sets_seen(first)
((('a', 1), ('b', 1)), (('a', 1),), (), (('b', 2),), 1, 2, 5)
>>> output_at(first, 1), number_of_output(first, (a, b, c)), number_of_output(first, (b, c, a)), changes_of((b, a, c)), fewest_changes(first), most_changes(first), with_fewest_changes(first)
((('b', 1), ('a', 1), ('b', 2)), 0, None, 2, 1, 2, (('a', 1), ('b', 1), ('b', 2)))
>>> loose = Program.of("a a b b !c c")
>>> how_many_outputs(loose), how_many_sets_seen(loose), fewest_changes(loose), most_changes(loose), output_at(loose, 0), how_many_outputs(Program()), output_at(Program(), 0)
(30, 18, 2, 4, (('a', 1), ('a', 2), ('b', 1), ('b', 2), ('c', 1)), 1, ())
>>> next_lines(first, (b, c))
raises NoStart(place=1)
>>> output_at(first, 2)
raises NoNumber(number=2)
>>> schedule(first, (b, c, a))
raises NoOutput()
"""
PLACES = r"""
>>> first, loose = Program.of("a b !a b"), Program.of("a a b b !c c")
>>> a, b, c = ("a", 1), ("b", 1), ("b", 2)
>>> [places_of(first, line) for line in (a, b, c)], often_at(first, a), mean_place(first, a), mean_place(first, c), often_at(loose, c)
([(0, 1), (0, 1), (2, 2)], [(0, 1), (1, 1)], (1, 2), (2, 1), [(1, 3), (2, 6), (3, 9), (4, 12)])
>>> ahead_often(first, a, b), ahead_often(first, c, a), ahead_often(first, a, a), share_ahead(first, a, c), share_ahead(first, b, a), share_ahead(loose, a, ("c", 1)), share_ahead(loose, a, c)
(1, 0, 0, (1, 1), (1, 2), (2, 3), (5, 6))
>>> between(first, a, b), between(first, a, c), between(first, c, a), between(first, b, c), can_stand_between(first, a, c), can_stand_between(first, c, a)
((0, 0), (0, 1), None, (0, 1), (('b', 1),), ())
>>> can_be_neighbours(first, a, c), always_neighbours(first, a, b), always_neighbours(first, b, c), can_be_neighbours(first, a, a), between(loose, a, ("c", 1))
(True, True, False, False, (0, 3))
>>> sure_heads(first), pieces(first), sure_heads(loose), pieces(loose), sure_heads(Program()), pieces(Program())
((0, 2, 3), [(('a', 1), ('b', 1)), (('b', 2),)], (0, 5), [(('a', 1), ('a', 2), ('b', 1), ('b', 2), ('c', 1))], (0,), [])
>>> swaps(first, (a, b, c), (b, a, c)), far_apart(first, (a, b, c), (a, b, c)), far_apart(loose, (a, ("a", 2), b, c, ("c", 1)), (("c", 1), b, c, a, ("a", 2)))
([(('a', 1), ('b', 1), ('b', 2)), (('b', 1), ('a', 1), ('b', 2))], 0, 8)
>>> shows_all(first, ((a, b, c), (b, a, c))), shows_all(first, ((a, b, c),)), shows_all(first, showing(first)), shows_all(Program(), ()), showing(Program()), len(showing(loose)) <= 3
(True, False, True, True, ((),), True)
>>> places_of(first, ("a", 2))
raises NoLine(line=('a', 2))
>>> far_apart(first, (a, b, c), (b, c, a))
raises NoOutput()
"""
ORDER = r"""
>>> writes = ("a", "a", "b", "b")
>>> all_marks(writes), is_idle(writes, (0, "a")), is_idle(writes, (3, "b"))
(((1, 'a'), (2, 'a'), (3, 'a')), True, True)
>>> early, late = Program.of("a !a a b b"), Program.of("a a b !a b")
>>> marks(early), marks(late), marks(Program.of("a a !a b b")), has_mark(late, (2, "a")), has_mark(late, (3, "a"))
(((1, 'a'),), ((3, 'a'),), ((1, 'a'), (2, 'a'), (3, 'a')), False, True)
>>> join(early, late).text, meet(early, late).text, lean(Program.of("!a a !a !b a b !a !a b !b !a")).text, full(writes).text
('a !a a b !a b', 'a a b b', 'a !a a b !a b', 'a a !a b b')
>>> middle(early, late, full(writes)).text, rest(join(early, late), early).text, allowed(early, late).text, with_marks(writes, ((4, "a"), (2, "a"))).text
('a !a a b !a b', 'a a b !a b', 'a a b !a b', 'a a !a b b')
>>> standing(early, late), standing(join(early, late), early), standing(bare(writes), late), standing(late, late)
('apart', 'surer', 'looser', 'alike')
>>> [own.text for own in above(early)], [own.text for own in below(full(writes))], rank(full(writes)), distance(early, late), parting_mark(early, late)
(['a !a a b !a b'], ['a !a a b !a b'], 3, 2, (1, 'a'))
>>> is_way(early, late, way(early, late)), is_way(early, late, (early, bare(writes), late)), is_way(early, late, (early, late)), output_against(early, (1, "a"))
(True, True, False, None)
>>> join(early, Program.of("a b"))
raises OtherWrites()
"""
NUMBERS = r"""
>>> writes = ("a", "a", "b", "b")
>>> how_many_tables(writes), [nth_table(writes, number).text for number in range(5)], table_number(Program.of("a a b !a b !a")), how_many_tables(("e", "o", "o", "e")), how_many_tables(())
(5, ['a a b b', 'a a b !a b', 'a !a a b b', 'a !a a b !a b', 'a a !a b b'], 1, 9, 1)
>>> early, late = Program.of("a !a a b b"), Program.of("a a b !a b")
>>> how_many_surer(early), how_many_looser(early), how_many_between(bare(writes), late), how_many_between(early, late), nth_between(early, full(writes), 1).text
(3, 2, 2, 0, 'a !a a b !a b')
>>> of_ranks(writes), of_flushes(writes), how_many_ways(early, late), how_many_ways(bare(writes), full(writes)), how_many_ways(late, late)
([1, 2, 1, 1], [1, 3, 1], 2, 2, 1)
>>> how_many_alike(early), share_with(writes, (1, "a")), share_with(writes, (4, "a")), mean_rank(writes)
(128, (3, 5), (0, 1), (7, 5))
>>> nth_table(writes, 5)
raises NoNumber(number=5)
"""
WISHES = r"""
>>> plain = Program.of("a b a b a b")
>>> early, both, late = (("a", 1), ("b", 2)), (("a", 2), ("b", 2)), (("a", 2), ("b", 3))
>>> how_few(plain, (early, both, late)), fewest(plain, (early, both, late)), put_in(plain, (("a", 3),)).text, apart(plain, (both,))
(1, (('a', 3),), 'a b a !a b a b', ((('a', 2), ('b', 2)),))
>>> first = (("a", 1), ("b", 1))
>>> how_few(plain, (first, early, both)), len(apart(plain, (first, early, both))), is_apart(plain, (first, early, both), (first, both)), is_apart(plain, (first, early, both), (first, early))
(2, 2, True, False)
>>> whole, other = (("a", 1), ("b", 3)), (("b", 1), ("a", 3))
>>> how_many_fewest(plain, (whole,)), how_many_fewest(plain, (whole, other)), nth_fewest(plain, (whole,), 0), nth_fewest(plain, (whole, other), 4)
(5, 15, (('a', 1),), (('a', 2), ('b', 3)))
>>> prices = (("a", (5, 5, 2, 9, 1, 5, 5)),)
>>> least_cost(plain, (early, late), ()), least_cost(plain, (early, late), prices), cheapest(plain, (early, late), prices)
(1, 3, (('a', 2), ('a', 4)))
>>> is_weights(plain, (early, late), prices, ((early, 2), (late, 1))), is_weights(plain, (early, late), prices, ((early, 2), (late, 2))), least_loss(plain, ((early, 1), (late, 4)), prices), best_loss(plain, ((early, 1), (late, 4)), prices)
(True, False, 2, (('a', 4),))
>>> [most_kept(plain, (first, early, both, late), many) for many in range(4)], most_spots(plain, (first, early, both, late), 1)
([0, 3, 4, 4], (('a', 3),))
>>> fewest_beside(plain, (both,), (early,)), len(fewest_beside(plain, (early,), (late,))), kept(plain, (early,)), forced(plain, (early,))
(None, 1, (), ((('a', 1), ('b', 2)), (('a', 1), ('b', 3))))
>>> busy, twice = Program.of("a !a b !b !a a b"), Program.of("a !a !a b")
>>> idle_flushes(busy), idle_flushes(twice), how_many_spare(busy), how_many_spare(twice), thinned(busy).text, thinned(twice).text
([4], [1, 2], 2, 3, 'a !a b !b a b', 'a !a b')
>>> least_wishes(busy), all_wishes(twice), kept(busy, (first, (("a", 2), ("b", 2)))), is_wish(plain, (("a", 2), ("b", 1)))
(((('a', 1), ('b', 1)), (('b', 1), ('a', 2))), ((('a', 1), ('b', 1)),), ((('a', 1), ('b', 1)),), False)
>>> kept(plain, ((("a", 2), ("b", 1)),))
raises NoWish(wish=(('a', 2), ('b', 1)))
>>> put_in(plain, (("a", 7),))
raises NoSpot(spot=('a', 7))
>>> nth_fewest(plain, (whole,), 5)
raises NoNumber(number=5)
"""
SEEN = r"""
>>> writes = ("e", "o", "o")
>>> turned = (("o", 1), ("e", 1), ("o", 2))
>>> is_run(writes, turned), is_run(writes, (("o", 1),)), is_run(writes, ()), is_run(writes, (("o", 2),)), is_run(writes, (("e", 1), ("e", 1))), is_run(writes, (("e", 2),)), is_run(writes, [("o", 1)])
(True, True, True, False, False, False, False)
>>> refutes(writes, turned, (1, "e")), refutes(writes, turned, (2, "e")), refuted_by(writes, turned), refuted_by(writes, (("o", 1), ("o", 2))), refuted_by(writes, (("e", 1),))
(True, False, ((1, 'e'),), ((1, 'e'), (2, 'e')), ())
>>> witness(writes, turned, (1, "e")), witness(writes, turned, (2, "e")), is_trial(writes, (2, "e"), (("o", 1), ("o", 2), ("e", 1))), is_trial(writes, (2, "e"), turned), trial(writes, (2, "o"))
((('o', 1), ('e', 1)), None, True, False, None)
>>> seen = Seen(writes)
>>> seen.left(), seen.how_many(), seen.surest().text, seen.tell((("o", 1),)), seen.left(), seen.how_many(), seen.surest().text, seen.refuted()
(((1, 'e'), (2, 'e')), 3, 'e !e o o', ((1, 'e'),), ((2, 'e'),), 2, 'e o !e o', ((1, 'e'),))
>>> seen.fits(Program.of("e o !e o")), seen.fits(Program.of("e !e o o")), seen.why_not(Program.of("e !e o o")), seen.tell(turned), len(seen), seen.runs, turned in seen
(True, False, (0, ('o', 1), ('e', 1)), (), 2, ((('o', 1),), (('o', 1), ('e', 1), ('o', 2))), True)
>>> mate = seen.twin()
>>> seen == mate, mate.back(), len(mate), seen == mate, mate.tell(turned), seen == mate
(True, None, 1, False, (), True)
>>> lazy_run(Program.of("e o !e o"), "e"), lazy_run(Program.of("e o !e o"), "o"), read_runs(writes, (turned, (("e", 1), ("o", 1), ("o", 2)))).text
((('o', 1), ('e', 1), ('o', 2)), (('e', 1), ('o', 1), ('o', 2)), 'e o !e o')
>>> read_runs(writes, (turned, turned)), read_runs(("e", "o", "e", "o"), ((("e", 1), ("o", 1), ("o", 2), ("e", 2)), (("e", 1), ("e", 2), ("o", 1), ("o", 2)))).text
(None, 'e !e o e o')
>>> seen.tell((("o", 2),))
raises NoRun()
>>> seen.fits(Program.of("o e o"))
raises OtherWrites()
>>> Seen(writes).back()
raises NothingDone()
>>> lazy_run(Program.of("e o !e o"), "a")
raises NoStream(name='a')
"""
KILLED = r"""
>>> program = Program.of("e o !e o")
>>> [can_show(program, run) for run in ((), (("o", 1),), (("o", 1), ("e", 1)), (("o", 1), ("o", 2)), (("e", 1), ("o", 1), ("o", 2)), (("o", 2),), [("o", 1)])]
[True, True, True, False, True, False, False]
>>> lacking(program, (("o", 1), ("o", 2))), lacking(program, (("o", 1),)), shown_with(program, (("o", 2),)), shown_with(program, ()), seen_without(program, ("o", 1), ("e", 1)), seen_without(program, ("o", 2), ("e", 1))
((('o', 2), ('e', 1)), None, (('e', 1), ('o', 1), ('o', 2)), (), True, False)
>>> lost_with(program, (("o", 1),)), lost_with(program, (("e", 1),)), surely_at(program, 2), surely_at(program, 3), surely_at(program, 4)
((('e', 1),), (), (), (('e', 1),), (('e', 1),))
>>> stops_of(program, ()), stops_of(program, (("o", 1),)), stops_of(program, (("e", 1),)), stops_of(program, (("o", 1), ("e", 1))), can_show_at(program, 3, (("o", 1),)), can_show_at(program, 3, (("e", 1),))
((0, 2), (2, 2), (1, 4), (2, 4), False, True)
>>> how_many_sets(program), how_many_runs(program), [how_many_runs_at(program, place) for place in range(5)]
(5, 7, [1, 2, 5, 3, 5])
>>> [nth_run(program, number) for number in range(7)]
[(), (('e', 1),), (('e', 1), ('o', 1)), (('e', 1), ('o', 1), ('o', 2)), (('o', 1),), (('o', 1), ('e', 1)), (('o', 1), ('e', 1), ('o', 2))]
>>> number_of_run(program, (("o", 1), ("e", 1))), number_of_run(program, (("o", 1), ("o", 2)))
(5, None)
>>> shown_with(program, (("o", 1), ("o", 3)))
raises NoLine(line=('o', 3))
>>> stops_of(program, (("o", 1), ("o", 2)))
raises NoRun()
>>> can_show_at(program, 5, ())
raises NoPlace(place=5)
>>> nth_run(program, 7)
raises NoNumber(number=7)
"""
TREES = r"""
>>> tree = (("bytes", ""), ("err", ""), ("text", "bytes"), ("utf", "bytes"))
>>> is_tree(tree), is_tree((("a", "b"), ("b", "a"))), leaves(tree), way_up(tree, "text"), meeting(tree, "text", "utf"), meeting(tree, "err", "text"), through(tree, "text")
(True, False, ('err', 'text', 'utf'), ('bytes', ''), 'bytes', '', (('flush', 'text'), ('flush', 'bytes')))
>>> early, late = Program.of("text !bytes !text err"), Program.of("text !text !bytes err")
>>> [reached_at(tree, own, ("text", 1), "") for own in (early, late)], reached_at(tree, early, ("text", 1), "bytes"), is_sure_in(tree, early, ("text", 1), ("err", 1)), is_sure_in(tree, late, ("text", 1), ("err", 1)), alike_in(tree, early, late)
([None, 2], 2, False, True, False)
>>> shared = Program.of("text utf !text utf !bytes err")
>>> table_in(tree, shared)
((('err', 1), (('text', 1),)), (('text', 1), ()), (('utf', 1), ()), (('utf', 2), (('text', 1),)))
>>> is_output_in(tree, shared, (("utf", 1), ("text", 1), ("err", 1), ("utf", 2))), is_output_in(tree, shared, (("err", 1), ("text", 1), ("utf", 1), ("utf", 2))), is_output_in(tree, shared, (("text", 1),))
(True, False, False)
>>> table_in(tree, Program.of("err bytes"))
raises NoLeaf(name='bytes')
>>> through(tree, "log")
raises NoStream(name='log')
"""
GREAT = r"""
>>> far = (("write", "a", 10 ** 30), ("write", "b", 5), ("flush", "a"), ("write", "b", 10 ** 20), ("write", "a", 1), ("flush", "b"))
>>> lines_of(far) == (("a", 10 ** 30 + 1), ("b", 10 ** 20 + 5)), ahead_of(far, ("b", 6), "a") == 10 ** 30, ahead_of(far, ("b", 5), "a"), ahead_of(far, ("a", 3), "a"), behind_of(far, ("a", 7), "b") == 10 ** 20
(True, True, 0, 2, True)
>>> place_range(far, ("a", 1)), place_range(far, ("b", 1)) == (0, 10 ** 30 + 1), place_range(far, ("b", 6)) == (10 ** 30 + 5, 10 ** 30 + 6)
((0, 5), True, True)
>>> stand(far, ("a", 9), ("b", 6)), stand(far, ("b", 6), ("a", 9)), stand(far, ("b", 1), ("a", 1)), stand(far, ("b", 2), ("b", 2)), most_held(far, "a") == 10 ** 30, most_held(far, "b") == 10 ** 20 + 5, most_held(far, "z")
('ahead', 'behind', 'either', 'same', True, True, 0)
>>> ahead_of(far, ("b", 10 ** 21), "a")
raises NoLine(line=('b', 1000000000000000000000))
"""
BOARD = r"""
>>> board = Board(("a", "b"))
>>> board["calm"], board["keen"] = Program.of("a b"), Program.of("a !a b")
>>> board.sure("keen", ("a", 1), ("b", 1)), board.sure_for(("a", 1), ("b", 1)), board.above("calm"), board.above("keen"), board.effect("calm", board["keen"]), board.write("b")
(True, ('keen',), ('keen',), (), 'looser', ('b', 2))
>>> board += ("calm", "a")
>>> board.write("b"), board["calm"].text, board.sure_for(("a", 1), ("b", 3)), board.sure("calm", ("a", 1), ("b", 2)), board.doubled()
(('b', 3), 'a b b !a b', ('calm', 'keen'), False, ())
>>> board.frame("calm", None, board["keen"])
>>> board += ("calm", "b")
>>> board.frames, board.writes
((('calm', None, 'a !a b b b'),), ('a', 'b', 'b', 'b'))
>>> board.write("a")
raises Outside(name='calm')
>>> board.undo(), board.write("a"), board.effect("keen", Program.of("a !a b b b a")), len(board)
(True, ('a', 2), 'alike', 2)
>>> board.attempt((("write", "b"), ("add", "keen", "z")))
raises Stopped(number=1, raised='NoStream', value='z')
>>> board.effect("keen", Program.of("a b"))
raises OtherWrites()
"""
TEXTS = r"""
>>> line_text(("a", 12)), line_in("ab3")
('a12', ('ab', 3))
>>> line_in("a0")
raises BadText()
>>> made = board_in("writes a b\nx: a !a b\nx from a b .. *\nend")
>>> made.writes, made.sure("x", ("a", 1), ("b", 1)), made.frames, made.undo(), board_text(made), board_text(Board())
(('a', 'b'), True, (('x', 'a b', None),), False, 'writes a b\nx: a !a b\nx from a b .. *\nend', 'writes\nend')
>>> board_in("writes a b\nx: b a\nend")
raises BadLine(number=1)
>>> answers("writes a b\nplan x a !a b\nplan y a b\nabove y\nsure x a1 b1\nsurely a1 b1\nwrite b\nadd y a\nwrite b\nsurely a1 b3\neffect x a b b b\nplan x a b\nframe y from * .. a !a b b b\nadd y b\nwrite a\nundo\nwrite a\nsure x a2 c1\nadd y c\nlift x\ndoubled\nwrites")
['done', 'done', 'done', 'x', 'yes', 'x', 'b2', 'done', 'b3', 'x y', 'surer', 'refused OtherWrites', 'done', 'done', 'refused Outside', 'yes', 'a2', 'refused NoLine', 'refused NoStream', 'refused NoFrame', '-', 'a b b b a']
>>> answers(""), answers("writes\nwrites\nundo\nabove a"), answers("writes\nplan x -\nwrite a\nadd x a\nwrite b\nsure x a1 b1")
([], ['done', '-', 'no', 'refused NoPlan'], ['done', 'done', 'a1', 'done', 'b1', 'yes'])
>>> answers("writes a  b")
raises BadLine(number=0)
"""


def names_of(*modules):
    """What the examples use: all that these files of the package hold."""
    names = {}
    for module in ("programs", "errors", *modules):
        names.update(vars(importlib.import_module("lateshown." + module)))
    return names


class Examples(unittest.TestCase):
    def run_all(self, text, *modules):
        names = names_of(*modules)
        told = iter(text.strip().splitlines())
        asked = next(told)
        many = 0
        while asked is not None:
            answer = next(told, None)
            if answer is None or answer.startswith(">>> "):
                exec(asked.removeprefix(">>> "), names)
            else:
                self.check(asked.removeprefix(">>> "), answer, names)
                many += 1
                answer = next(told, None)
            asked = answer
        return many

    def check(self, asked, answer, names):
        if not answer.startswith("raises "):
            self.assertEqual(eval(asked, names), eval(answer, names), asked)
            return
        wanted = eval(answer.removeprefix("raises "), names)
        with self.assertRaises(type(wanted), msg=asked) as caught:
            eval(asked, names)
        self.assertEqual(vars(caught.exception), vars(wanted), asked)

    def test_outputs(self):
        self.assertEqual(self.run_all(OUTPUTS, "outputs"), 9)

    def test_places(self):
        self.assertEqual(self.run_all(PLACES, "places"), 9)

    def test_order(self):
        self.assertEqual(self.run_all(ORDER, "order"), 8)

    def test_numbers(self):
        self.assertEqual(self.run_all(NUMBERS, "order", "numbers"), 5)

    def test_wishes(self):
        self.assertEqual(self.run_all(WISHES, "wishes"), 12)

    def test_seen(self):
        self.assertEqual(self.run_all(SEEN, "seen"), 12)

    def test_killed(self):
        self.assertEqual(self.run_all(KILLED, "killed"), 11)

    def test_trees(self):
        self.assertEqual(self.run_all(TREES, "trees"), 6)

    def test_great(self):
        self.assertEqual(self.run_all(GREAT, "great"), 4)

    def test_board(self):
        self.assertEqual(self.run_all(BOARD, "board"), 7)

    def test_texts(self):
        self.assertEqual(self.run_all(TEXTS, "board", "texts", "desk"), 7)


if __name__ == "__main__":
    unittest.main()
