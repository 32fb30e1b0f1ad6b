"""Points [1], [16] and [17]: programs and tested programs written as texts, and read from them."""

import copy
import itertools
import re
import unittest

from made import Made, MadeRows
from testedrows.errors import BadProgram, BadTested, BadText
from testedrows.notes import read, read_rows, written, written_rows
from testedrows.turning import turned

END = ((0, -1),)
ODD_NUMBERS = ("", "00", "01", "007", "000001", "100000", "1234567", "-1", "+1", "-0", "1.0", "1_0", "0x1", "1e1", "a",
               "1a", "a1", "one", "True", "None", "n", "\n", "1\n", "\n1", "1\n1", "'1'", "(1)", "1,", ",")
ODD_NAMES = ("", "n", "n00", "n01", "n007", "n100", "n1234", "n-1", "n+1", "N1", "1", "m1", "nn1", "n1n", "n1.", "n\n",
             "n1\n", "\nn1", "name", "num", "end", "else", "n n1", "~1")
FIVE = "(0|[1-9][0-9]{0,4})"
FOUR = "(0|[1-9][0-9]{0,3})"
TWO = "(0|[1-9][0-9]?)"
NAME = "n" + TWO
# What comes behind a word, by which a text is looked through word by word.
BEHIND = {"set": ("name", "part"), "put": ("part", "part"), "say": ("part",), "stop": ("part",),
          "if": ("part", "else", "end"), "while": ("part", "end")}
PARTS = {"not": 1, "get": 1, "pick": 3, "add": 2, "take": 2, "times": 2, "over": 2, "rest": 2, "less": 2, "same": 2,
         "and": 2, "or": 2}
LINES = ["piece", f"go {FOUR} ({FOUR}|end)", f"{FOUR} num {FIVE} {FIVE}", f"{FOUR} (copy|not|get|put) {FIVE} {FIVE}",
         f"{FOUR} (add|take|times|over|rest|less|same) {FIVE} {FIVE} {FIVE}", f"{FOUR} (say|stop) {FIVE}",
         f"{FOUR} test {FOUR} {FOUR} {FIVE}"]


def first_odd_word(text):
    """The place of the first word that can't stand there, or how many there are; None for a text that can be read."""
    words = text.split(" ")
    coming = ["program", "two", "two", "end"]
    for place, word in enumerate(words):
        if not coming:
            return place
        wanted = coming.pop(0)
        if wanted == "program" and word == "program":
            continue
        if wanted == "two" and re.fullmatch(TWO, word):
            continue
        if wanted == "name" and re.fullmatch(NAME, word):
            continue
        if wanted in ("end", "else") and word == wanted:
            continue
        if wanted in ("end", "else") and word in BEHIND:
            coming = [*BEHIND[word], wanted, *coming]
        elif wanted == "part" and word in PARTS:
            coming = ["part"] * PARTS[word] + coming
        elif not (wanted == "part" and re.fullmatch(f"{FIVE}|{NAME}", word)):
            return place
    return len(words) if coming else None


def first_odd_line(text):
    """The place of the first row that can't stand there; None for a text that can be read."""
    behind = None
    for place, line in enumerate(text.split("\n")):
        kind = [at for at, form in enumerate(LINES) if re.fullmatch(form, line)]
        if place == 0:
            if not re.fullmatch(f"tested {TWO} {TWO}", line):
                return 0
        elif not kind or (kind[0] > 0 and behind is None) or (kind[0] > 1 and behind == 1):
            return place
        else:
            behind = kind[0]
    return None


class Texts(unittest.TestCase):
    def is_text_of(self, program, text):
        self.assertEqual(written(program), text)
        self.assertEqual(read(text), program)

    def is_odd(self, text, place):
        with self.assertRaises(BadText) as caught:
            read(text)
        self.assertEqual(caught.exception.place, place, text)
        self.assertEqual(first_odd_word(text), place, text)

    def is_no_program(self, text, at, why):
        self.assertIsNone(first_odd_word(text), text)
        with self.assertRaises(BadProgram) as caught:
            read(text)
        self.assertEqual((caught.exception.at, caught.exception.why), (at, why), text)

    def is_text_of_rows(self, tested, text):
        self.assertEqual(written_rows(tested), text)
        self.assertEqual(read_rows(text), tested)

    def is_odd_at_row(self, text, place):
        with self.assertRaises(BadText) as caught:
            read_rows(text)
        self.assertEqual(caught.exception.place, place, text)
        self.assertEqual(first_odd_line(text), place, text)

    def is_no_tested(self, text, piece, row):
        self.assertIsNone(first_odd_line(text), text)
        with self.assertRaises(BadTested) as caught:
            read_rows(text)
        self.assertEqual((caught.exception.piece, caught.exception.row), (piece, row), text)


class TestWritten(Texts):
    def test_no_deeds(self):
        for ins, names in ((0, 0), (0, 99), (1, 1), (3, 3), (3, 10), (2, 99)):
            self.is_text_of((ins, names, ()), f"program {ins} {names} end")

    def test_each_deed(self):
        one, two = ("num", 1), ("name", 0)
        for deed, text in ((("set", 0, one), "set n0 1"), (("put", one, two), "put 1 n0"), (("say", two), "say n0"),
                           (("stop", one), "stop 1"), (("if", two, (), ()), "if n0 else end"),
                           (("if", one, (("say", one),), (("stop", two), ("say", one))),
                            "if 1 say 1 else stop n0 say 1 end"),
                           (("while", one, ()), "while 1 end"),
                           (("while", two, (("set", 0, one), ("say", two))), "while n0 set n0 1 say n0 end")):
            self.is_text_of((0, 1, (deed,)), f"program 0 1 {text} end")
            self.is_text_of((1, 1, (deed, deed)), f"program 1 1 {text} {text} end")

    def test_each_part(self):
        for word, many in PARTS.items():
            parts = tuple([("num", at) for at in range(many)])
            text = " ".join([word] + [str(at) for at in range(many)])
            self.is_text_of((0, 0, (("say", (word, *parts)),)), f"program 0 0 say {text} end")
            within = tuple([(word, *parts)] * many)
            self.is_text_of((0, 0, (("say", (word, *within)),)), f"program 0 0 say {word}{(' ' + text) * many} end")

    def test_numbers_and_names(self):
        for number in (0, 1, 9, 10, 99, 100, 999, 1000, 9999, 10000, 10006):
            self.is_text_of((0, 0, (("say", ("num", number)),)), f"program 0 0 say {number} end")
        for name in (0, 1, 9, 10, 98):
            self.is_text_of((0, 99, (("set", name, ("name", name)),)), f"program 0 99 set n{name} n{name} end")

    def test_bodies_within_one_another(self):
        inner = ("while", ("num", 1), (("if", ("num", 2), (), (("say", ("num", 3)),)),))
        other = (("while", ("num", 0), ()), ("stop", ("num", 4)))
        self.is_text_of((1, 2, (("if", ("name", 0), (inner,), other), ("say", ("name", 1)))),
                        "program 1 2 if n0 while 1 if 2 else say 3 end end else while 0 end stop 4 end say n1 end")

    def test_as_much_as_there_may_be(self):
        deeds = tuple([("set", at % 99, ("num", 10006 - at)) for at in range(200)])
        text = " ".join([f"set n{at % 99} {10006 - at}" for at in range(200)])
        self.is_text_of((0, 99, deeds), f"program 0 99 {text} end")
        part = ("num", 10006)
        for _ in range(10):
            part = ("not", part)
        self.is_text_of((0, 0, (("say", part),)), "program 0 0 say " + "not " * 10 + "10006 end")

    def test_what_is_no_program(self):
        for program, at, why in ((None, -1, "shape"), ((4, 4, ()), -1, "ins"), ((1, 0, ()), -1, "names"),
                                 ((0, 0, (None,)), 0, "shape"), ((0, 0, (("say", ("num", 10007)),)), 1, "number"),
                                 ((0, 0, (("say", ("num", True)),)), 1, "shape"), ((0, True, ()), -1, "names"),
                                 ((0, 1, (("set", 1, ("num", 0)),)), 0, "name"),
                                 ("program 0 0 end", -1, "shape")):
            with self.assertRaises(BadProgram) as caught:
                written(program)
            self.assertEqual((caught.exception.at, caught.exception.why), (at, why))


class TestRead(Texts):
    def test_empty_text_and_words(self):
        self.is_odd("", 0)
        self.is_odd(" ", 0)
        self.is_odd("\n", 0)
        self.is_odd(" program 0 0 end", 0)
        self.is_odd("program  0 0 end", 1)
        self.is_odd("program 0  0 end", 2)
        self.is_odd("program 0 0  end", 3)
        self.is_odd("program 0 0 end ", 4)
        self.is_odd("program 0 0 end  ", 4)
        self.is_odd("program 0 0 say  1 end", 4)

    def test_words_too_few(self):
        words = "program 0 1 set n0 add 1 n0 if n0 while 1 say 2 end else put 0 1 end stop pick 1 2 3 end".split(" ")
        self.assertIsNone(first_odd_word(" ".join(words)))
        for many in range(1, len(words)):
            self.is_odd(" ".join(words[:many]), many)
            self.is_odd(" ".join(words[:many] + [""]), many)

    def test_words_too_many(self):
        for more in ("end", "0", "n0", "program", "say", "say 1", "program 0 0 end", "else", ""):
            self.is_odd("program 0 0 end " + more, 4)
            self.is_odd("program 0 0 while 0 end end " + more, 7)

    def test_a_wrong_word_at_each_place(self):
        text = "program 0 1 set n0 add 1 n0 if n0 while 1 say 2 end else put 0 1 end stop pick 1 2 3 end"
        words = text.split(" ")
        for place in range(len(words)):
            for word in ("", "x", "n", "-1", "00", "num", "name", "test", "copy", "piece", "go", "End", "END", "SAY",
                         "tested", "100000", "n100", "1\n", "\n", "Program"):
                self.is_odd(" ".join(words[:place] + [word] + words[place + 1:]), place)

    def test_words_that_stand_elsewhere(self):
        for text, place in (("end", 0), ("0", 0), ("program end", 1), ("program n0 0 end", 1), ("program 0 n0 end", 2),
                            ("program 0 end", 2), ("program 0 0 0 end", 3), ("program 0 0 n0 end", 3),
                            ("program 0 0 else", 3), ("program 0 0 add 1 2 end", 3), ("program 0 0 set 0 1 end", 4),
                            ("program 0 0 say end", 4), ("program 0 0 say say 1 end", 4), ("program 0 0 say else", 4),
                            ("program 0 0 while 1 else end", 5), ("program 0 0 if 1 end", 5),
                            ("program 0 0 if 1 end end", 5), ("program 0 0 if 1 else else end", 6),
                            ("program 0 0 if 1 else end", 7), ("program 0 0 set n0 end", 5),
                            ("program 0 0 set n0 set n0 1 end", 5), ("program 0 0 say add 1 end", 6),
                            ("program 0 0 say 1 1 end", 5), ("program 0 0 say num 1 end", 4),
                            ("program 0 0 say name 1 end", 4), ("program 0 0 say not if 1 else end end", 5)):
            self.is_odd(text, place)

    def test_odd_numbers(self):
        for odd in ODD_NUMBERS:
            if odd != "n":
                self.is_odd(f"program 0 0 say {odd} end", 4)
                self.is_odd(f"program 0 0 say add 1 {odd} end", 6)
            self.is_odd(f"program {odd} 0 end", 1)
            self.is_odd(f"program 0 {odd} end", 2)

    def test_odd_names(self):
        for odd in ODD_NAMES:
            self.is_odd(f"program 0 9 set {odd} 1 end", 4)
            if odd != "1":
                self.is_odd(f"program 0 9 say {odd} end", 4)
                self.is_odd(f"program 0 9 set n1 not {odd} end", 6)

    def test_how_many_figures(self):
        for word in ("100", "999", "1000", "010", "000"):
            self.is_odd(f"program {word} 0 end", 1)
            self.is_odd(f"program 0 {word} end", 2)
        for number in ("100000", "999999", "010006", "100060"):
            self.is_odd(f"program 0 0 say {number} end", 4)
        self.is_odd("program 0 99 say n100 end", 4)
        self.is_no_program("program 10 10 end", -1, "ins")
        self.is_no_program("program 99 99 end", -1, "ins")
        self.is_no_program("program 0 0 say 10007 end", 1, "number")
        self.is_no_program("program 0 0 say 99999 end", 1, "number")
        self.is_no_program("program 0 99 say n99 end", 1, "name")

    def test_line_ends(self):
        self.is_odd("program 0 0 end\n", 3)
        self.is_odd("program\n0 0 end", 0)
        self.is_odd("program 0 0 say 1\nend", 4)
        self.is_odd("program 0 0 say n0\n", 4)
        self.is_odd("program 0 0 \nend", 3)
        self.is_odd("program 0 0\n end", 2)

    def test_the_first_of_two(self):
        self.is_odd("program 00 00 and", 1)
        self.is_odd("program 4 0 say 00 end", 4)
        self.is_odd("program 0 0 say x say y end", 4)

    def test_what_is_no_program(self):
        for text, at, why in (("program 4 4 end", -1, "ins"), ("program 4 3 end", -1, "ins"),
                              ("program 1 0 end", -1, "names"), ("program 3 2 say 10007 end", -1, "names"),
                              ("program 0 0 set n0 1 end", 0, "name"), ("program 0 0 say n0 end", 1, "name"),
                              ("program 0 5 say 1 set n5 1 end", 2, "name"),
                              ("program 0 5 if 1 say n4 else say n5 end end", 5, "name"),
                              ("program 0 0 say add 10006 10007 end", 3, "number")):
            self.is_no_program(text, at, why)

    def test_too_many_things(self):
        self.assertEqual(len(read("program 0 0 " + "say 1 " * 200 + "end")[2]), 200)
        self.is_no_program("program 0 0 " + "say 1 " * 201 + "end", 400, "many")
        self.is_no_program("program 0 0 " + "say 1 " * 990 + "end", 400, "many")
        self.is_no_program("program 0 0 " + "while 0 end " * 201 + "end", 400, "many")

    def test_too_deep(self):
        for many in (11, 12, 30, 58, 59, 60):
            self.is_no_program("program 0 0 say " + "not " * many + "1 end", 12, "deep")
            self.is_no_program("program 0 0 " + "while 1 " * (many + 1) + "end " * (many + 1) + "end", 23, "deep")
            self.is_no_program("program 0 0 " + "if 1 else " * (many + 1) + "end " * (many + 1) + "end", 23, "deep")
            self.is_odd("program 0 0 say " + "not " * many + "end", many + 4)
            self.is_odd("program 0 0 " + "while 1 " * many + "end", 2 * many + 4)
        text = "program 0 0 say " + "not " * 10 + "1 end"
        self.assertEqual(written(read(text)), text)

    def test_largest_texts(self):
        self.is_odd("x" * 6000, 0)
        self.is_odd(" " * 6000, 0)
        self.is_odd("\n" * 6000, 0)
        self.is_odd("program 0 0 say " + "9" * 5980 + " end", 4)
        self.is_odd("program 0 0 " + "say 1 " * 997 + "and", 1997)


class TestWrittenRows(Texts):
    def test_plainly(self):
        tested = (1, 2, ((((0, "test", 1, 2, 0), (1, "num", 5, 7), (2, "say", 5)), ((1, 0), (0, 1))), ((), END)))
        lines = ("tested 1 2", "piece", "0 test 1 2 0", "1 num 5 7", "2 say 5", "go 1 0", "go 0 1", "piece", "go 0 end")
        self.is_text_of_rows(tested, "\n".join(lines))

    def test_no_rows(self):
        for ins, names in ((0, 0), (0, 99), (3, 3), (2, 10)):
            self.is_text_of_rows((ins, names, (((), END),)), f"tested {ins} {names}\npiece\ngo 0 end")

    def test_each_word(self):
        rows = [("num", 0, 10006), ("copy", 1999, 5), ("not", 5, 1999), ("get", 0, 0), ("put", 5, 6), ("say", 1999),
                ("stop", 0), ("test", 1, 1999, 3)]
        rows += [(word, 5, 6, 1999) for word in ("add", "take", "times", "over", "rest", "less", "same")]
        for test, row in itertools.product((0, 1, 9, 10, 999, 1999), rows):
            line = " ".join([str(test)] + [str(told) for told in row])
            self.is_text_of_rows((0, 0, ((((test,) + row,), END),)), f"tested 0 0\npiece\n{line}\ngo 0 end")

    def test_goes(self):
        goes = ((1, -1), (1999, 0), (0, 2), (3, -1), (0, 1), (7, 2), (0, -1), (0, 0))
        lines = "\n".join(["go " + " ".join([str(test), str(piece) if piece >= 0 else "end"]) for test, piece in goes])
        self.is_text_of_rows((0, 0, (((), END), ((), goes), ((), END))),
                             f"tested 0 0\npiece\ngo 0 end\npiece\n{lines}\npiece\ngo 0 end")

    def test_as_much_as_there_may_be(self):
        tested = (3, 99, tuple([(((1999, "add", 1999, 1999, 1999),) * 20, ((1999, 998),) * 7 + ((0, 998),))] * 999))
        self.assertEqual(read_rows(written_rows(tested)), tested)
        tested = (0, 0, ((((0, "test", 1, 2, 0),) * 1500, END),))
        self.assertEqual(read_rows(written_rows(tested)), tested)

    def test_what_is_no_tested_program(self):
        for tested, piece, row in ((None, -1, -1), ((0, 0, ()), -1, -1), ((0, 0, (None,)), 0, -1),
                                   ((0, 0, (((None,), END),)), 0, 0), ((0, 0, ((((0, "say", True),), END),)), 0, 0),
                                   ((0, 0, (((), ()),)), 0, 0), ("tested 0 0", -1, -1)):
            with self.assertRaises(BadTested) as caught:
                written_rows(tested)
            self.assertEqual((caught.exception.piece, caught.exception.row), (piece, row))


class TestReadRows(Texts):
    HEAD = "tested 1 9\npiece\n0 say 0\n"

    def row_is_odd(self, row):
        self.is_odd_at_row(f"tested 1 9\npiece\n{row}\ngo 0 end", 2)
        self.is_odd_at_row(f"{self.HEAD}{row}\n0 say 1\ngo 0 end", 3)
        self.is_odd_at_row(f"{self.HEAD}go 0 end\n{row}", 4)
        self.is_odd_at_row(f"tested 1 9\n{row}", 1)
        self.is_odd_at_row(row, 0)

    def row_is_no_row(self, row):
        self.is_no_tested(f"tested 1 9\npiece\n{row}\ngo 0 end", 0, 0)
        self.is_no_tested(f"{self.HEAD}go 0 1\npiece\n0 say 1\n{row}\ngo 0 end", 1, 1)

    def test_empty_text_and_rows(self):
        self.is_odd_at_row("", 0)
        self.is_odd_at_row("\n", 0)
        self.is_odd_at_row("\ntested 0 0\npiece\ngo 0 end", 0)
        self.is_odd_at_row("tested 0 0\n\npiece\ngo 0 end", 1)
        self.is_odd_at_row("tested 0 0\npiece\n\ngo 0 end", 2)
        self.is_odd_at_row("tested 0 0\npiece\ngo 0 end\n", 3)
        self.is_odd_at_row("tested 0 0\n", 1)
        self.is_odd_at_row("tested 0 0\npiece\n", 2)

    def test_the_first_row(self):
        for head in ("tested", "tested 0", "tested 0 0 0", "Tested 0 0", "tested  0 0", "tested 0  0", " tested 0 0",
                     "tested 0 0 ", "program 0 0", "piece", "0 0", "go 0 end", "0 say 0", "tested 0 0 end",
                     "tested;0 0"):
            self.is_odd_at_row(head, 0)
            self.is_odd_at_row(f"{head}\npiece\ngo 0 end", 0)
        for odd in [odd for odd in ODD_NUMBERS if "\n" not in odd] + ["100", "999", "1000"]:
            self.is_odd_at_row(f"tested {odd} 0\npiece\ngo 0 end", 0)
            self.is_odd_at_row(f"tested 0 {odd}\npiece\ngo 0 end", 0)

    def test_a_second_first_row(self):
        self.is_odd_at_row("tested 0 0\ntested 0 0", 1)
        self.is_odd_at_row("tested 0 0\npiece\ntested 0 0", 2)
        self.is_odd_at_row("tested 0 0\npiece\ngo 0 end\ntested 0 0", 3)

    def test_ahead_of_the_first_piece(self):
        for row in ("0 say 0", "0 test 1 2 0", "go 0 end", "go 0 0"):
            self.is_odd_at_row(f"tested 0 0\n{row}\npiece\ngo 0 end", 1)
            self.is_odd_at_row(f"tested 0 0\n{row}", 1)

    def test_goes_ahead_of_rows(self):
        self.is_odd_at_row("tested 0 0\npiece\ngo 0 end\n0 say 0", 3)
        self.is_odd_at_row("tested 0 0\npiece\n0 say 0\ngo 0 end\n0 say 0\ngo 0 end", 4)
        self.is_odd_at_row("tested 0 0\npiece\ngo 0 end\ngo 0 end\n0 say 0", 4)
        self.assertEqual(read_rows("tested 0 0\npiece\ngo 0 end\npiece\n0 say 0\ngo 0 end"),
                         (0, 0, (((), END), (((0, "say", 0),), END))))

    def test_what_may_lack(self):
        self.is_no_tested("tested 0 0", -1, -1)
        self.is_no_tested("tested 0 0\npiece", 0, 0)
        self.is_no_tested("tested 0 0\npiece\n0 say 0", 0, 1)
        self.is_no_tested("tested 0 0\npiece\npiece\ngo 0 end", 0, 0)
        self.is_no_tested("tested 0 0\npiece\ngo 0 end\npiece\n0 say 0\n0 say 0", 1, 2)
        self.is_no_tested("tested 0 0\npiece\ngo 0 end\npiece", 1, 0)

    def test_odd_rows(self):
        for row in ("piece 0", "piece ", " piece", "Piece", "pieces", "end", "go", "0", "say", "say 0", "0 say",
                    "0  say 0", "0 say  0", " 0 say 0", "0 say 0 ", "0 say 0 0", "0 SAY 0", "0 set 0 0",
                    "0 pick 1 2 3 4", "0 and 1 2 3",
                    "0 or 1 2 3", "0 if 1", "0 while 0", "0 put 0", "0 put 0 0 0", "0 num 0", "0 num 0 0 0", "0 copy 5",
                    "0 copy 5 6 7", "0 not 5", "0 not 5 6 7", "0 get 5", "0 get 5 6 7", "0 stop", "0 stop 1 2",
                    "0 test 1 2",
                    "0 test 1 2 3 4", "0 test", "0 num", "0 add", "0 go 0", "0 0 0", "0 say n0", "n0 say 0", "0 piece",
                    "x", "0 end", "say 0 0", "0,say,0", "(0, 'say', 0)", "0;say 0"):
            self.row_is_odd(row)
        for word in ("add", "take", "times", "over", "rest", "less", "same"):
            for row in (f"0 {word} 5 6", f"0 {word} 5 6 7 8", f"0 {word}", f"{word} 5 6 7", f"0 {word} 5 6 x"):
                self.row_is_odd(row)

    def test_odd_numbers(self):
        for odd in ODD_NUMBERS:
            if "\n" in odd:
                continue
            for row in (f"{odd} say 0", f"0 say {odd}", f"0 stop {odd}", f"0 num {odd} 0", f"0 num 0 {odd}",
                        f"0 copy 5 {odd}", f"0 put {odd} 0", f"0 put 0 {odd}", f"0 add {odd} 5 6", f"0 add 5 {odd} 6",
                        f"0 add 5 6 {odd}", f"0 test {odd} 2 0", f"0 test 1 {odd} 0", f"0 test 1 2 {odd}",
                        f"go {odd} end", f"go {odd} 0", f"go 0 {odd}"):
                self.row_is_odd(row)

    def test_how_many_figures(self):
        for row in ("12345 say 0", "10000 say 0", "0 test 10000 1 0", "0 test 1 10000 0", "0 test 12345 54321 0"):
            self.row_is_odd(row)
        for row in ("2000 say 0", "9999 say 0", "0 say 2000", "0 say 9999", "0 say 10000", "0 say 99999",
                    "0 num 5 10007",
                    "0 num 5 99999", "0 num 99999 5", "0 copy 5 99999", "0 put 99999 5", "0 add 99999 5 6",
                    "0 add 5 99999 6", "0 add 5 6 99999", "0 get 2000 5", "0 test 2000 1 0", "0 test 1 9999 0",
                    "0 test 1 2 99999", "0 test 1 2 2000", "0 test 0 1 5", "0 test 1 0 5", "0 test 7 7 5"):
            self.row_is_no_row(row)

    def test_goes(self):
        for go in ("go", "go 0", "go end", "go end 0", "go end end", "go 0 end 0", "go 0 0 0", "go 0 -1", "go 0 END",
                   "go 0 none", "go 0 n0", "Go 0 end", "go  0 end", "go 0  end", "go 0 end ", " go 0 end", "go 00 end",
                   "go 0 00", "go 10000 end", "go 0 10000", "go 12345 0", "go 0 12345", "go 0 0end", "go to 0"):
            self.row_is_odd(go)
        for go in ("go 0 1", "go 0 999", "go 0 9999", "go 1 end", "go 2000 end\ngo 0 end", "go 9999 0\ngo 0 end",
                   "go 0 1\ngo 0 end", "go 0 end\ngo 1 end", "\n".join(["go 0 end"] * 9)):
            self.is_no_tested(f"tested 0 0\npiece\n0 say 0\n0 say 0\n{go}", 0, 2)
        self.assertEqual(read_rows("tested 0 0\npiece\ngo 3 0\ngo 1999 end\ngo 0 end"),
                         (0, 0, (((), ((3, 0), (1999, -1), (0, -1))),)))

    def test_the_first_of_two(self):
        self.is_odd_at_row("tested 4 0\npiece\n0 say 9999\n0 sey 0\n0 soy 0", 3)
        self.is_odd_at_row("tested 4 0\n0 say 0\nx", 1)
        self.is_odd_at_row("tested 4 100\nx", 0)

    def test_what_is_no_tested_program(self):
        self.is_no_tested("tested 4 4\npiece\ngo 0 end", -1, -1)
        self.is_no_tested("tested 10 10\npiece\ngo 0 end", -1, -1)
        self.is_no_tested("tested 1 0\npiece\ngo 0 end", -1, -1)
        self.is_no_tested("tested 0 0\npiece\n0 say 2000\npiece\ngo 5 end", 0, 0)
        self.is_no_tested("tested 0 0\npiece\n0 say 0\ngo 5 end\npiece\n0 say 2000", 0, 1)

    def test_largest_texts(self):
        self.is_no_tested("tested 0 0" + "\npiece" * 998, 0, 0)
        told = read_rows("tested 0 0\npiece" + "\n1 say 1" * 745 + "\ngo 0 end")
        self.assertEqual(told, (0, 0, (((((1, "say", 1),) * 745), END),)))
        self.is_odd_at_row("tested 0 0\npiece" + "\n1 say 1" * 740 + "\n1 say\n", 742)
        self.is_odd_at_row("\n" * 6000, 0)
        self.is_odd_at_row("tested 0 0" + "\n" * 5980, 1)
        self.is_odd_at_row(" " * 6000, 0)
        self.is_odd_at_row("tested 0 0\npiece\n0 say " + "1" * 5900, 2)

    def test_many_pieces(self):
        text = "tested 0 0" + "\npiece\ngo 0 end" * 399
        self.assertLess(len(text), 6000)
        self.assertEqual(read_rows(text), (0, 0, (((), END),) * 399))
        for many, told in ((999, (0, 0)), (1000, (-1, -1)), (1001, (-1, -1))):
            self.is_no_tested("tested 0 0" + "\npiece" * many, *told)


class TestMade(Texts):
    def test_programs(self):
        made = Made(23)
        for _ in range(600):
            program = (made.chance.randrange(4), made.chance.choice((4, 5, 99)), made.body(3))
            text = written(program)
            self.assertIsNone(first_odd_word(text))
            self.assertEqual(read(text), program)
            self.assertEqual(written(read(text)), text)

    def test_tested_programs(self):
        made = MadeRows(24, 1999, 1999)
        small = MadeRows(25)
        programs = Made(26)
        for _ in range(300):
            for tested in (made.tested(), small.tested(), turned((0, 4, programs.body(3)))):
                text = written_rows(tested)
                self.assertIsNone(first_odd_line(text))
                self.assertEqual(read_rows(text), tested)
                self.assertEqual(written_rows(read_rows(text)), text)

    def changed(self, held, others, chance):
        """The list with one or two of it left out, taken twice, put elsewhere, or put in the place of others."""
        held = list(held)
        for _ in range(chance.choice((1, 1, 2))):
            at = chance.randrange(len(held) + 1)
            way = chance.randrange(5)
            if way == 0:
                held[at:at + 1] = []
            elif way == 1:
                held.insert(at, chance.choice(others))
            elif way == 2:
                held[at:at + 1] = [chance.choice(others)]
            elif way == 3:
                held[at:] = []
            elif held:
                held[at:at + 1] = [chance.choice(held)]
        return held

    def test_changed_programs(self):
        made = Made(27)
        others = ["", "end", "else", "n0", "n3", "n4", "n99", "n100", "0", "00", "10006", "10007", "99999", "100000",
                  "say", "set", "put", "stop", "if", "while", "add", "pick", "not", "num", "name", "program", "4", "99",
                  "100", "x"]
        told = []
        for _ in range(4000):
            words = written((made.chance.randrange(4), 4, made.body(2))).split(" ")
            text = " ".join(self.changed(words, others, made.chance))
            told.append(self.told_of(read, written, text, first_odd_word(text)))
        for kind, least in (("odd", 1500), ("refused", 20), ("read", 50)):
            self.assertGreater(told.count(kind), least, kind)

    def test_changed_tested_programs(self):
        made = MadeRows(28)
        others = ["", "piece", "go 0 end", "go 1 end", "go 0 0", "go 7 1", "go 0 9", "0 say 0", "0 say",
                  "1 num 0 10007",
                  "2000 say 1", "0 test 1 1 0", "0 test 3 4 0", "0 add 1 2 3", "0 add 1 2", "tested 0 0", "go 0 -1",
                  "0 say 01", "0 say 99999", "0 say 100000", "10000 say 1", "piece 1", "x"]
        told = []
        for _ in range(4000):
            lines = written_rows(made.tested()).split("\n")
            if made.chance.random() < 0.6:
                lines = self.changed(lines, others, made.chance)
            else:
                at = made.chance.randrange(len(lines))
                words = self.changed(lines[at].split(" "), ["", "0", "9999", "10000", "end", "say", "x"], made.chance)
                lines[at] = " ".join(words)
            text = "\n".join(lines)
            told.append(self.told_of(read_rows, written_rows, text, first_odd_line(text)))
        for kind, least in (("odd", 1500), ("refused", 200), ("read", 200)):
            self.assertGreater(told.count(kind), least, kind)

    def told_of(self, reading, writing, text, odd):
        try:
            held = reading(text)
        except BadText as bad:
            self.assertEqual(bad.place, odd, text)
            self.assertIsNotNone(odd, text)
            return "odd"
        except (BadProgram, BadTested):
            self.assertIsNone(odd, text)
            return "refused"
        self.assertIsNone(odd, text)
        self.assertEqual(writing(held), text)
        return "read"


class TestNothingIsChanged(unittest.TestCase):
    def test_asked_again(self):
        program = (1, 2, (("if", ("name", 0), (("say", ("num", 1)),), ()),))
        tested = (1, 2, ((((0, "test", 1, 2, 0), (1, "say", 0)), END),))
        for held, writing, reading in ((program, written, read), (tested, written_rows, read_rows)):
            before = copy.deepcopy(held)
            text = writing(held)
            self.assertIs(type(text), str)
            self.assertRaises(BadText, reading, text + " ")
            self.assertEqual(reading(text), held)
            self.assertEqual(reading(text), before)
            self.assertEqual(writing(held), text)
            self.assertEqual(held, before)


if __name__ == "__main__":
    unittest.main()
