"""Texts and the desk [16]: edges, wrong inputs, and the general rules."""

import unittest

from asking import check_call, check_raises
from lateshown.board import Board
from lateshown.desk import answers
from lateshown.errors import BadLine, BadText
from lateshown.programs import Program
from lateshown.texts import board_in, board_text, line_in, line_text

GOOD = "writes a b\nx: a !a b\ny: a b\nx from a b .. *\ny from * .. a !a b\nend"


class Lines(unittest.TestCase):
    def test_there_and_back(self):
        for line, text in ((("a", 1), "a1"), (("abcdefgh", 10 ** 40), "abcdefgh1" + "0" * 40), (("z", 90), "z90"),
                           (("ab", 3), "ab3")):
            self.assertEqual((line_text(line), line_in(text)), (text, line))

    def test_what_is_no_line(self):
        for text in ("", "a", "1", "a0", "a01", "a00", "a-1", "A1", "a1 ", " a1", "a 1", "a1b", "1a", "a1.0",
                     "abcdefghi1", "a1\n",
                     "a_1", "a+1", "!a1", "a1a1", "a1,2", "-", "0", "a0b1", "a\u0661", "\u00e41", "a\u00b2", "None",
                     "a1_0"):
            check_raises(self, BadText(), line_in, text)

    def test_numbers_of_many_digits(self):
        self.assertEqual(line_in("a" + "7" * 3999), ("a", 7 * (10 ** 3999 - 1) // 9))
        self.assertEqual(line_in("a1" + "0" * 5000), ("a", 10 ** 5000))

    def test_general(self):
        check_call(self, line_text, {"line": ("a", 12)})
        check_call(self, line_in, {"text": "ab3"})


class BoardTexts(unittest.TestCase):
    def test_empty_boards(self):
        self.assertEqual((board_text(Board()), board_text(Board(("a", "b", "a")))),
                         ("writes\nend", "writes a b a\nend"))
        self.assertTrue(board_in("writes\nend") == Board())
        self.assertTrue(board_in("writes a b a\nend") == Board(("a", "b", "a")))

    def test_all_lines(self):
        made = board_in(GOOD)
        self.assertEqual((made.writes, made.names, made["x"].text, made["y"].text),
                         (("a", "b"), ("x", "y"), "a !a b", "a b"))
        self.assertEqual(made.frames, (("x", "a b", None), ("y", None, "a !a b")))
        self.assertEqual(board_text(made), GOOD)
        self.assertIs(made.undo(), False)
        made.leave("x")
        self.assertEqual(board_text(made), "writes a b\ny: a b\ny from * .. a !a b\nend")
        self.assertIs(made.undo(), True)
        self.assertIs(made.undo(), False)
        self.assertEqual(board_text(made), GOOD)

    def test_streams_with_the_words_of_the_text(self):
        text = ("writes from end writes\nend: from end writes !from\nfrom: !end from end writes\n"
                "from from from end writes .. *\nend")
        self.assertEqual(board_text(board_in(text)), text)
        self.assertEqual(board_in(text).frames, (("from", "from end writes", None),))

    def test_plans_for_no_writes(self):
        text = "writes\na: -\nb: !a\na from - .. !q\nb from * .. *\nend"
        self.assertEqual(board_text(board_in(text)), text)
        check_raises(self, BadLine(1), board_in, "writes\na: \nend")

    def test_texts_are_kept_as_they_are(self):
        text = "writes a b\nx: !b a !a !a b !b\nx from a !a b !z .. !z a !a b\nend"
        self.assertEqual(board_text(board_in(text)), text)

    def test_bad_lines(self):
        head = "writes a b\nx: a !a b\n"
        for text, number in (
            ("", 0), ("\n", 0), ("end", 0), ("writes", 1), ("writes\n", 1), ("writes \nend", 0), (" writes\nend", 0),
            ("writes a  b\nend", 0),
            ("writes a b \nend", 0), ("write a\nend", 0), ("Writes a\nend", 0), ("writes A\nend", 0),
            ("writes a!b\nend", 0),
            ("writes !a\nend", 0), ("writes -\nend", 0), ("writes a\nwrites a\nend", 1), ("writes a b\nend\n", 2),
            ("writes a b\nend\nend", 2),
            ("writes a b\nend\nx: a b", 2), ("writes a b\n\nend", 1), ("writes a b\nx: a b", 2),
            ("writes a b\nend ", 1),
            ("writes a b\n end", 1), ("writes a b\nEnd", 1), ("writes a b\nx:a b\nend", 1),
            ("writes a b\nx : a b\nend", 1),
            ("writes a b\nx:  a b\nend", 1), ("writes a b\nx: a  b\nend", 1), ("writes a b\nx: a b \nend", 1),
            ("writes a b\nx: b a\nend", 1),
            ("writes a b\nx: a\nend", 1), ("writes a b\nx: -\nend", 1), ("writes a b\nX: a b\nend", 1),
            ("writes a b\n: a b\nend", 1),
            ("writes a b\nabcdefghi: a b\nend", 1), ("writes a b\nx: a b: a\nend", 1),
            ("writes a b\nx: a b\nx: a b\nend", 2),
            ("writes a b\ny: a b\nx: a b\nend", 2), (head + "y from * .. *\nend", 2),
            (head + "x from * .. *\nx from * .. *\nend", 3),
            (head + "y: a b\ny from * .. *\nx from * .. *\nend", 4), (head + "x from * .. *\ny: a b\nend", 3),
            (head + "x from a .. *\nend", 2), (head + "x from * .. b a\nend", 2), (head + "x from * .. a b\nend", 2),
            (head + "x from a !b b .. a b\nend", 2), (head + "x from *..*\nend", 2), (head + "x from *\nend", 2),
            (head + "x from * .. \nend", 2), (head + "x from  .. *\nend", 2), (head + "x  from * .. *\nend", 2),
            (head + "x from * .. *  \nend", 2), (head + "x from * .. * .. *\nend", 2),
            (head + "x from ** .. *\nend", 2),
            (head + "x form * .. *\nend", 2), (head + "x from None .. *\nend", 2), (head + " x from * .. *\nend", 2),
            (head + "x from * .. *", 3), (head + "x from * .. *\n", 3), (head + "from * .. *\nend", 2), (head[:-1], 2),
            (head, 2),
            ("\u00e9", 0), ("writes a\u00a0b\nend", 0), ("writes a b\r\nend", 0), ("writes a\tb\nend", 0),
        ):
            check_raises(self, BadLine(number), board_in, text)

    def test_the_first_wrong_line_is_told(self):
        check_raises(self, BadLine(1), board_in, "writes a b\nx: b a\ny: b a\n\nq")
        check_raises(self, BadLine(0), board_in, "writes  a b\nx: b a")
        check_raises(self, BadLine(2), board_in, "writes a b\nx: a b\nx from a !a b .. *\nq")

    def test_general(self):
        check_call(self, board_text, {"board": board_in(GOOD)})
        check_call(self, board_in, {"text": GOOD})
        one, other = board_in(GOOD), board_in(GOOD)
        one.write("c")
        self.assertEqual(board_text(other), GOOD)


class Desk(unittest.TestCase):
    def test_no_requests(self):
        self.assertEqual((answers(""), answers("writes"), answers("writes a b")), ([], ["done"], ["done"]))

    def test_each_request(self):
        for requests, wanted in (
            ("writes a b\nwrites\nwrite a\nwrite c\nwrites", ["done", "a b", "a2", "c1", "a b a c"]),
            ("writes\nplan x -\nplan y !a\nabove x\ndoubled\nleave x\nleave x\nabove y",
             ["done", "done", "done", "y", "y", "done", "refused NoPlan", "-"]),
            ("writes a b\nplan x a !a b\nsure x a1 b1\nsure x b1 a1\nsure x a1 a2\nsure y a1 a2\n"
             "surely a1 b1\nsurely a1 c1\nsurely b1 a1",
             ["done", "done", "yes", "no", "refused NoLine", "refused NoPlan", "x", "refused NoLine", "-"]),
            ("writes a b\nplan x a b\nadd x a\nadd x c\nadd y c\nwrite b\nsure x a1 b2\nundo\nundo\nundo\nundo",
             ["done", "done", "done", "refused NoStream", "refused NoPlan", "b2", "yes", "yes", "yes", "yes", "no"]),
            ("writes a b\nplan x a b\nframe x from * .. *\nframe x from a !a b .. *\nframe x from * .. a b\n"
             "plan x a !a b\nlift x\nlift x",
             ["done", "done", "done", "refused Outside", "done", "refused Outside", "done", "refused NoFrame"]),
            ("writes a b\nplan x a b\nframe x from a .. *\nframe y from a .. *\nplan y b a\nlift y\nabove y",
             ["done", "done", "refused OtherWrites", "refused NoPlan", "refused OtherWrites", "refused NoPlan",
              "refused NoPlan"]),
            ("writes a b\nplan x a !a b\neffect x a b\neffect x !a a !a b\neffect x b a\neffect y a b\n"
             "plan x a b\neffect x a !a b",
             ["done", "done", "surer", "alike", "refused OtherWrites", "refused NoPlan", "done", "looser"]),
            ("writes a b a\nplan x a !a b a\neffect x a b !b a", ["done", "done", "apart"]),
            ("writes a b\nplan x a b !a\nframe x from * .. a b\nwrite b\nwrite a\nwrites",
             ["done", "done", "done", "refused Outside", "a2", "a b a"]),
            ("writes from undo\nplan frame from undo\nframe frame from from undo .. *\nwrite write\nwrites",
             ["done", "done", "done", "write1", "from undo write"]),
        ):
            self.assertEqual(answers(requests), wanted)

    def test_what_is_refused_changes_nothing(self):
        self.assertEqual(answers("writes a b\nplan x a b\nplan x b a\nleave y\nlift x\nadd x c\nundo\nundo\nabove x"),
                         ["done", "done", "refused OtherWrites", "refused NoPlan", "refused NoFrame",
                          "refused NoStream", "yes", "no",
                          "refused NoPlan"])

    def test_bad_first_lines(self):
        for text in ("writes a  b", "writes ", " writes", "write a", "plan x -", "undo", "\nwrites", "writes a b ",
                     "writes A", "writes -",
                     " ", "\n", "writes !a", "Writes", "writes a1", "end", "writes\ta", "writesa", "writes abcdefghi"):
            check_raises(self, BadLine(0), answers, text)
            check_raises(self, BadLine(0), answers, text + "\nqqq")

    def test_bad_requests(self):
        for line in ("", " ", "write", "write ", "write  a", "write a ", " write a", "write A", "write a b",
                     "write abcdefghi", "write a1",
                     "plan x", "plan x ", "plan x  a", "plan x a  b", "plan x a b ", "plan X a b", "plan  x a b",
                     "plan", "plan - a",
                     "plan x a - b", "plan x *", "leave", "leave x y", "leave  x", "lift", "lift x ", "add x",
                     "add x a b", "add  x a",
                     "add x  a", "add x !a", "frame x", "frame x from", "frame x from * .. ", "frame x from * ..",
                     "frame x from *..*",
                     "frame  x from * .. *", "frame x  from * .. *", "frame x from  * .. *", "frame x from * ..  *",
                     "frame x from * .. * ",
                     "frame x from a1 .. *", "frame x * .. *", "frame", "frame X from * .. *", "writes a", "writes ",
                     "sure x a1",
                     "sure x a1 b1 c1", "sure x a01 b1", "sure x a0 b1", "sure x a b1", "sure x  a1 b1",
                     "sure x a1 b1 ", "sure a1 b1",
                     "surely a1", "surely a1 b1 c1", "surely x a1 b1", "surely a1  b1", "surely a1 b01", "above",
                     "above x y", "above a1",
                     "doubled x", "doubled ", "effect x", "effect x ", "effect x a  b", "effect x a1", "undo ",
                     "undo x", " undo", "Undo",
                     "redo", "end", "x: a b", "twin", "attempt", "undo\t", "names", "done", "write \u00e4",
                     "program x -", "set x a b"):
            for text, number in (("writes a b\n" + line, 1), ("writes a b\nplan x a b\n" + line + "\nundo\nwrong", 2)):
                check_raises(self, BadLine(number), answers, text)

    def test_the_last_line_without_characters_is_a_line(self):
        check_raises(self, BadLine(2), answers, "writes a\nundo\n")
        check_raises(self, BadLine(1), answers, "writes\n")

    def test_great_texts(self):
        deep = " ".join("ab" * 900)
        text = f"writes {deep}\nplan x {deep}\nsure x a1 b{'9' * 3000}\neffect x {deep}\nsurely a1 a900" + "\nundo" * 55
        self.assertEqual(answers(text), ["done", "done", "refused NoLine", "alike", "x", "yes"] + ["no"] * 54)
        plans = [f"plan {name} a b" for name in "stuvwxyz"]
        wide = "\n".join(["writes a b", *plans] + ["write a", "add z a", "write b", "surely a2 b2"] * 12)
        self.assertEqual(answers(wide)[-4:], ["a13", "done", "b13", "z"])

    def test_general(self):
        check_call(self, answers, {"text": "writes a\nplan x a\nwrite b\nundo\nsurely a1 a1"})
        self.assertIs(type(answers("writes")), list)
        self.assertEqual(Program.of("a").text, "a")


if __name__ == "__main__":
    unittest.main()
