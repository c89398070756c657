"""Streams over streams [13], held against all habits of all streams of small trees."""

import random
import unittest
from itertools import permutations, product

import brute
from lateshown import trees
from lateshown.programs import Program

# Each with the leaves to which is written, and so many Programs of so many deeds beside all short ones.
TREES = (
    ((("a", ""), ("b", "")), 5, 300),
    ((("a", "m"), ("b", "m"), ("m", "")), 5, 800),
    ((("a", "m"), ("b", ""), ("m", "")), 5, 800),
    ((("a", "m"), ("b", "m"), ("c", ""), ("m", "")), 4, 1000),
    ((("a", "m"), ("b", "m"), ("c", "n"), ("m", "n"), ("n", "")), 4, 1000),
    ((("a", "m"), ("b", "n"), ("m", "n"), ("n", "")), 4, 800),
    ((("a", "m"), ("m", "n"), ("n", "")), 4, 300),
    ((("a", "m"), ("b", "n"), ("m", ""), ("n", "")), 4, 600),
)


def programs_in(tree, longest, many):
    """The DEEDs of all short Programs, and of some longer ones with at most four lines."""
    ends = trees.leaves(tree)
    deeds = [("write", stream) for stream in ends] + [("flush", stream) for stream, _ in tree]
    for length in range(longest + 1):
        yield from product(deeds, repeat=length)
    rng = random.Random(len(tree))
    flushes = [deed for deed in deeds if deed[0] == "flush"]
    for _ in range(many):
        writes = [("write", rng.choice(ends)) for _ in range(rng.randrange(2, 5))]
        found = []
        for deed in writes:
            found.append(deed)
            # Where several streams are flushed one behind another, lines come far.
            found.extend(rng.choice(flushes) for _ in range(rng.randrange(4)))
        yield tuple(found)


class AllHabits(unittest.TestCase):
    def test_sure_lines_tables_and_outputs(self):
        for tree, longest, many in TREES:
            self.assertIs(trees.is_tree(tree), True)
            known = {}
            for deeds in programs_in(tree, longest, many):
                program = Program(deeds)
                seen = brute.outputs_in(tree, deeds)
                table = trees.table_in(tree, program)
                if seen not in known:
                    known[seen] = table
                    self.check_sure(tree, program, seen, table)
                self.assertEqual(table, known[seen], (tree, program.text))
            self.assertEqual(len(set(known.values())), len(known))

    def check_sure(self, tree, program, seen, table):
        self.assertEqual(table, brute.table(seen), (tree, program.text))
        sure = brute.sure_pairs(seen)
        for one, other in product(program.lines, repeat=2):
            self.assertIs(trees.is_sure_in(tree, program, one, other), (one, other) in sure)
        for order in permutations(program.lines):
            self.assertIs(trees.is_output_in(tree, program, order), order in seen)

    def test_two_programs(self):
        for tree, _, many in TREES:
            known = {}
            for deeds in list(programs_in(tree, 2, many))[::3]:
                known[deeds] = brute.outputs_in(tree, deeds)
            for (one, ones), (other, others) in product(list(known.items())[::5], list(known.items())[::4]):
                self.assertIs(trees.alike_in(tree, Program(one), Program(other)), ones == others)

    def test_where_lines_are_at_the_latest(self):
        for tree, longest, many in TREES:
            above = dict(tree)
            for deeds in list(programs_in(tree, longest, many))[::4]:
                program = Program(deeds)
                for number, line in enumerate(program.lines):
                    for name in trees.way_up(tree, line[0]):
                        self.assertEqual(trees.reached_at(tree, program, line, name),
                                         self.latest(above, deeds, number, line[0], name))

    def latest(self, above, deeds, number, stream, name):
        """The place at which a line that goes on at flushes alone comes there."""
        written = -1
        for place, (word, own) in enumerate(deeds):
            if word == "write":
                written += 1
            elif written >= number and own == stream:
                stream = above[stream]
                if stream == name:
                    return place
        return None


if __name__ == "__main__":
    unittest.main()
