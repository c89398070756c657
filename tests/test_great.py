"""Great Programs [14]: edges, wrong inputs, small ones against Programs of single deeds, and ones of 10 ** 38 LINEs."""

import random
import unittest

import brute
from asking import check_call, check_raises
from lateshown.errors import NoLine
from lateshown.great import ahead_of, behind_of, lines_of, most_held, place_range, stand
from lateshown.places import places_of
from lateshown.programs import Program, may_hold
from lateshown.tables import is_sure, table_of

FAR = (("write", "a", 10 ** 30), ("write", "b", 5), ("flush", "a"), ("write", "b", 10 ** 20), ("write", "a", 1),
       ("flush", "b"))


def drawn(rng, deeds, most, names="abc"):
    """A GREAT of so many deeds."""
    return tuple(
        ("write", rng.choice(names), rng.randrange(1, most + 1)) if rng.random() < 0.6
        else ("flush", rng.choice(names + "z"))
        for _ in range(deeds)
    )


def single(great):
    """The Program of the single deeds."""
    deeds = []
    for deed in great:
        deeds.extend([deed[:2]] * (deed[2] if deed[0] == "write" else 1))
    return Program(deeds)


class Edges(unittest.TestCase):
    def test_no_deeds(self):
        self.assertEqual((lines_of(()), most_held((), "a")), ((), 0))
        for line in (("a", 1), ("a", 0), ("z", 10 ** 40)):
            for ask in (lambda great, line: ahead_of(great, line, "a"), lambda great, line: behind_of(great, line, "z"),
                        place_range, lambda great, line: stand(great, line, ("y", 1))):
                check_raises(self, NoLine(line), ask, (), line)

    def test_flushes_of_streams_that_are_not_written(self):
        great = (("flush", "z"), ("write", "a", 2), ("flush", "z"), ("write", "b", 3), ("flush", "y"))
        self.assertEqual((lines_of(great), most_held(great, "z"), most_held(great, "y")), ((("a", 2), ("b", 3)), 0, 0))
        self.assertEqual((ahead_of(great, ("b", 1), "z"), behind_of(great, ("a", 1), "z"),
                          ahead_of(great, ("b", 1), "q")), (0, 0, 0))
        self.assertEqual(place_range(great, ("a", 1)), (0, 3))
        check_raises(self, NoLine(("z", 1)), ahead_of, great, ("z", 1), "a")

    def test_the_first_and_the_last_line_of_a_run(self):
        great = (("write", "a", 7), ("flush", "a"), ("write", "b", 4), ("write", "a", 3), ("flush", "b"),
                 ("write", "a", 2))
        for number in (1, 4):
            self.assertEqual((ahead_of(great, ("b", number), "a"), behind_of(great, ("b", number), "a")), (7, 2))
        for number in (1, 7):
            self.assertEqual((ahead_of(great, ("a", number), "b"), behind_of(great, ("a", number), "b")), (0, 4))
        for number in (8, 10):
            self.assertEqual((ahead_of(great, ("a", number), "b"), behind_of(great, ("a", number), "b")), (0, 0))
        for number in (11, 12):
            self.assertEqual((ahead_of(great, ("a", number), "b"), behind_of(great, ("a", number), "b")), (4, 0))
        self.assertEqual((ahead_of(great, ("a", 1), "a"), behind_of(great, ("a", 1), "a")), (0, 11))
        self.assertEqual((ahead_of(great, ("a", 12), "a"), behind_of(great, ("a", 12), "a")), (11, 0))

    def test_runs_side_by_side_on_one_stream(self):
        great = (("write", "a", 2), ("write", "a", 3), ("flush", "a"), ("write", "b", 1))
        self.assertEqual((lines_of(great), most_held(great, "a")), ((("a", 5), ("b", 1)), 5))
        self.assertEqual(place_range(great, ("b", 1)), (5, 5))

    def test_a_line_and_itself(self):
        for one, other in ((("a", 5), ("a", 5)), (["a", 5], ("a", 5)), (("a", 5), ["a", 5])):
            self.assertEqual(stand(FAR, one, other), "same")
        self.assertEqual((stand(FAR, ("a", 5), ("a", 6)), stand(FAR, ("a", 10 ** 30), ("a", 6))), ("ahead", "behind"))

    def test_what_is_held(self):
        great = (("write", "a", 3), ("flush", "a"), ("write", "b", 9), ("write", "a", 2), ("flush", "b"),
                 ("write", "a", 4))
        self.assertEqual((most_held(great, "a"), most_held(great, "b"), most_held(great, "c")), (6, 9, 0))
        self.assertEqual(most_held((("write", "a", 8), ("flush", "a"), ("write", "a", 5)), "a"), 8)

    def test_no_line(self):
        for line in (("b", 10 ** 21), ("a", 10 ** 30 + 2), ("a", 0), ("b", -3), ("c", 1)):
            for ask in (place_range, lambda great, line: ahead_of(great, line, "a"),
                        lambda great, line: ahead_of(great, line, line[0]),
                        lambda great, line: behind_of(great, line, line[0]),
                        lambda great, line: stand(great, line, ("q", 5)),
                        lambda great, line: stand(great, ("a", 1), line)):
                check_raises(self, NoLine(line), ask, FAR, line)

    def test_each_function(self):
        check_call(self, lines_of, {"great": FAR})
        for ask in (ahead_of, behind_of):
            for stream in "abz":
                check_call(self, ask, {"great": FAR, "line": ("b", 6), "stream": stream})
        check_call(self, place_range, {"great": FAR, "line": ("b", 6)})
        check_call(self, stand, {"great": FAR, "one": ("b", 6), "other": ("a", 1)})
        check_call(self, most_held, {"great": FAR, "stream": "a"})


class Small(unittest.TestCase):
    def test_against_the_programs_of_their_deeds(self):
        rng = random.Random(4)
        for _ in range(250):
            great = drawn(rng, rng.randrange(8), 3)
            program = single(great)
            self.assertEqual(lines_of(great), tuple(sorted(
                (stream, program.writes.count(stream)) for stream in program.streams)))
            for stream in "abcz":
                held = max(may_hold(program, place, stream) for place in range(len(program) + 1))
                self.assertEqual(most_held(great, stream), held)
            self.check_lines(great, program, {pair: True for pair in self.sure(program)})

    def sure(self, program):
        table = table_of(program)
        return [(one, other) for one in program.lines for other in program.lines if is_sure(table, one, other)]

    def check_lines(self, great, program, sure):
        for line in program.lines:
            self.assertEqual(place_range(great, line), places_of(program, line))
            for stream in "abcz":
                lines = [own for own in program.lines if own[0] == stream]
                self.assertEqual(ahead_of(great, line, stream), sum((own, line) in sure for own in lines))
                self.assertEqual(behind_of(great, line, stream), sum((line, own) in sure for own in lines))
            for other in program.lines:
                wanted = ("same" if line == other else "ahead" if (line, other) in sure
                          else "behind" if (other, line) in sure else "either")
                self.assertEqual(stand(great, line, other), wanted)

    def test_against_all_habits(self):
        rng = random.Random(9)
        for _ in range(150):
            great = drawn(rng, rng.randrange(6), 2, "ab")
            program = single(great)
            if len(program.lines) > 6:
                continue
            seen = brute.outputs(program.deeds)
            for line in program.lines:
                places = [out.index(line) for out in seen]
                self.assertEqual(place_range(great, line), (min(places), max(places)))


class Great(unittest.TestCase):
    def test_how_ahead_and_behind_add_up(self):
        rng = random.Random(6)
        for _ in range(8):
            great = drawn(rng, 60, 10 ** 38, "abcde")
            whole = dict(lines_of(great))
            self.assertEqual(sum(whole.values()), sum(deed[2] for deed in great if deed[0] == "write"))
            lines = [(stream, rng.randrange(1, many + 1)) for stream, many in whole.items() for _ in range(3)]
            lines.extend((stream, many) for stream, many in whole.items())
            for line in lines:
                self.check_line(great, whole, line, lines)

    def check_line(self, great, whole, line, lines):
        least, most = place_range(great, line)
        ahead = {stream: ahead_of(great, line, stream) for stream in whole}
        behind = {stream: behind_of(great, line, stream) for stream in whole}
        self.assertEqual((least, most), (sum(ahead.values()), sum(whole.values()) - 1 - sum(behind.values())))
        self.assertEqual(ahead[line[0]] + behind[line[0]] + 1, whole[line[0]])
        for stream, many in whole.items():
            self.assertLessEqual(ahead[stream] + behind[stream], many)
            if stream == line[0]:
                continue
            # Just the first ones are ahead, just the last ones behind, seen from the others as well.
            for number in (1, ahead[stream], ahead[stream] + 1, many - behind[stream], many - behind[stream] + 1, many):
                if 1 <= number <= many:
                    wanted = ("ahead" if number <= ahead[stream]
                              else "behind" if number > many - behind[stream] else "either")
                    other = (stream, number)
                    self.assertEqual(stand(great, other, line), wanted)
                    self.assertEqual(behind_of(great, other, line[0]) > whole[line[0]] - line[1], wanted == "ahead")
                    self.assertEqual(ahead_of(great, other, line[0]) >= line[1], wanted == "behind")

    def test_each_line_written_on_its_own(self):
        many = 10 ** 40
        great = tuple(deed for _ in range(20) for deed in (("write", "a", many), ("flush", "a"), ("write", "b", many)))
        self.assertEqual(lines_of(great), (("a", 20 * many), ("b", 20 * many)))
        self.assertEqual((most_held(great, "a"), most_held(great, "b")), (many, 20 * many))
        self.assertEqual(place_range(great, ("a", 3 * many)), (3 * many - 1, 5 * many - 1))
        self.assertEqual(place_range(great, ("b", 3 * many + 1)), (7 * many, 23 * many))


if __name__ == "__main__":
    unittest.main()
