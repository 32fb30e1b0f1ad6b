"""Point [1], the interface, and what holds over the whole program."""

import copy
import importlib
import inspect
import itertools
import unittest

from made import Made, MadeRows
from testedrows import errors
from testedrows.backing import back
from testedrows.baring import bared, lean
from testedrows.machine import counts, run_rows
from testedrows.notes import read, read_rows, written, written_rows
from testedrows.packing import fits, packed, run_beats
from testedrows.plain import run
from testedrows.turning import turned

END = ((0, -1),)
A, B, C = [("name", name) for name in range(3)]
WORTHS = (0, 1, 2, 15, 16, 10006)
INTERFACE = {
    "plain": {"run": ("program", "handed", "fuel")},
    "turning": {"turned": ("program",)},
    "machine": {"run_rows": ("tested", "handed", "fuel"), "counts": ("tested", "handed", "fuel")},
    "baring": {"bared": ("tested",), "lean": ("tested",)},
    "backing": {"back": ("tested",)},
    "packing": {"fits": ("tested", "width", "beats"), "packed": ("tested", "width"),
                "run_beats": ("tested", "width", "beats", "handed")},
    "notes": {"written": ("program",), "written_rows": ("tested",), "read": ("text",), "read_rows": ("text",)},
}


def num(n):
    return ("num", n)


def of_rows(*rows, ins=1, names=1, goes=END):
    return (ins, names, ((tuple(rows), goes),))


class TestInterface(unittest.TestCase):
    def test_names_and_arguments(self):
        for module, functions in INTERFACE.items():
            held = importlib.import_module("testedrows." + module)
            for name, arguments in functions.items():
                self.assertEqual(tuple(inspect.signature(getattr(held, name)).parameters), arguments, name)

    def test_kinds(self):
        program = (1, 1, (("say", A),))
        tested = turned(program)
        for told, kind in ((run(program, [0], 0), tuple), (tested, tuple), (run_rows(tested, [0], 0), tuple),
                           (counts(tested, [0], 0), tuple), (bared(tested), tuple), (lean(tested), tuple),
                           (back(tested), tuple), (fits(tested, 1, []), bool), (packed(tested, 1), list),
                           (run_beats(tested, 1, packed(tested, 1), [0]), tuple), (written(program), str),
                           (written_rows(tested), str), (read(written(program)), tuple),
                           (read_rows(written_rows(tested)), tuple)):
            self.assertIs(type(told), kind)


class TestRefusals(unittest.TestCase):
    """Which refusal comes of two and more wrong things at once; each is of its own class and of no other one."""

    BAD_PROGRAM = (0, 0, (None,))
    BAD = of_rows((0, "say", 0), None)
    TWO = (1, 1, ((((0, "say", 0),) * 40, END), ((), END)))
    MANY = of_rows(*[(0, "say", 0)] * 40)
    GOOD = of_rows((0, "say", 0))
    OTHERS = ("BadProgram", "BadTested", "BadHanded", "BadFuel", "BadWidth", "BadBeats", "NotOne", "TooMany", "BadText")

    def comes(self, refusal, told, *handed, **fields):
        held = copy.deepcopy(handed)
        with self.assertRaises(ValueError) as caught:
            told(*handed)
        bad = caught.exception
        kinds = [name for name in self.OTHERS if isinstance(bad, getattr(errors, name))]
        self.assertEqual(kinds, [refusal], (told, handed))
        self.assertIsInstance(bad, errors.RowsError)
        for field, value in fields.items():
            self.assertEqual(getattr(bad, field), value)
        self.assertEqual(handed, held)

    def test_one_thing_handed_in(self):
        for told in (turned, written):
            self.comes("BadProgram", told, self.BAD_PROGRAM, at=0, why="shape")
        for told in (bared, lean, back, written_rows):
            self.comes("BadTested", told, self.BAD, piece=0, row=1)
        self.comes("NotOne", back, self.TWO)
        self.comes("TooMany", back, self.MANY)
        self.comes("BadTested", back, of_rows(*[(0, "say", 0)] * 40, goes=((0, 0), (1, -1))), piece=0, row=40)
        self.comes("BadText", read, "program 4 4 say 00 end", place=4)
        self.comes("BadProgram", read, "program 4 4 say 10007 end", at=-1, why="ins")
        self.comes("BadText", read_rows, "tested 4 4\npiece\n0 say 00", place=2)
        self.comes("BadTested", read_rows, "tested 4 4\npiece\n0 say 2000", piece=-1, row=-1)

    def test_handed_and_fuel(self):
        for told, bad, good in ((run, self.BAD_PROGRAM, (1, 1, ())), (run_rows, self.BAD, self.TWO),
                                (counts, self.BAD, self.MANY)):
            first = "BadProgram" if told == run else "BadTested"
            for handed, fuel in itertools.product(([], [0], [True], [10007]), (-1, 0, 1001, None, True)):
                self.comes(first, told, bad, handed, fuel)
                if handed != [0]:
                    self.comes("BadHanded", told, good, handed, fuel)
                elif fuel != 0 or fuel is True:
                    self.comes("BadFuel", told, good, handed, fuel)

    def test_widths_and_beats(self):
        for width, beats, handed in itertools.product((0, 1, None), ([None], [[0]], []), ([], [0], [True])):
            for tested, refusal in ((self.BAD, "BadTested"), (self.TWO, "NotOne")):
                self.comes(refusal, packed, tested, width)
                self.comes(refusal, fits, tested, width, beats)
                self.comes(refusal, run_beats, tested, width, beats, handed)
            if width != 1:
                self.comes("BadWidth", packed, self.MANY, width)
                self.comes("BadWidth", fits, self.GOOD, width, beats)
                self.comes("BadWidth", run_beats, self.GOOD, width, beats, handed)
            elif beats != [[0]]:
                self.comes("BadBeats", run_beats, self.GOOD, width, beats, handed)
            elif handed != [0]:
                self.comes("BadHanded", run_beats, self.GOOD, width, beats, handed)
        self.comes("TooMany", packed, self.MANY, 1)

    def test_true_and_false_are_no_numbers(self):
        for odd in (True, False):
            self.comes("BadProgram", turned, (odd, 1, ()), at=-1, why="ins")
            self.comes("BadProgram", written, (0, odd, ()), at=-1, why="names")
            self.comes("BadProgram", run, (0, 1, (("say", num(odd)),)), [], 0, at=1, why="shape")
            self.comes("BadTested", bared, (odd, 1, self.GOOD[2]), piece=-1, row=-1)
            self.comes("BadTested", lean, (1, odd, self.GOOD[2]), piece=-1, row=-1)
            self.comes("BadTested", back, of_rows((odd, "say", 0)), piece=0, row=0)
            self.comes("BadTested", packed, of_rows((0, "num", 5, odd)), 1, piece=0, row=0)
            self.comes("BadTested", written_rows, of_rows((0, "test", 5, odd, 1)), piece=0, row=0)
            self.comes("BadTested", fits, of_rows(goes=((odd, -1), (0, -1))), 1, [], piece=0, row=0)
            self.comes("BadTested", run_beats, of_rows(goes=((0, odd),)), 1, [], [0], piece=0, row=0)
            self.comes("BadWidth", packed, self.GOOD, odd)
            self.comes("BadBeats", run_beats, self.GOOD, 1, [[odd]], [0])
            self.comes("BadHanded", run_beats, self.GOOD, 1, [[0]], [odd])
            self.comes("BadFuel", run_rows, self.GOOD, [0], odd)


class TestAskedAgain(unittest.TestCase):
    """All that is handed in is as it was; lists that are told may be changed, inner ones too."""

    ROWS = ((0, "test", 1, 2, 0), (1, "num", 5, 7), (2, "num", 5, 8), (1, "say", 0), (0, "say", 5), (0, "put", 5, 5),
            (0, "num", 9, 9))
    PROGRAM = (1, 2, (("while", A, (("set", 0, ("take", A, num(1))), ("put", A, num(5)), ("say", A))),))

    def spoil(self, told):
        """Change all lists in it."""
        if isinstance(told, (list, tuple)):
            for held in told:
                self.spoil(held)
        if isinstance(told, list):
            told.append("spoilt")
            told[0] = None
            told.reverse()

    def test_each_function(self):
        tested = of_rows(*self.ROWS)
        beats = packed(tested, 2)
        calls = [(run, self.PROGRAM, [3], 9), (turned, self.PROGRAM), (run_rows, tested, [3], 0),
                 (counts, tested, [3], 0), (bared, tested), (lean, tested), (back, tested), (fits, tested, 2, beats),
                 (packed, tested, 2), (run_beats, tested, 2, beats, [3]), (written, self.PROGRAM),
                 (written_rows, tested), (read, written(self.PROGRAM)), (read_rows, written_rows(tested)),
                 (fits, tested, 2, [[0, True], None, ["1"], (2,), [[3]], []])]
        first = []
        for told, *handed in copy.deepcopy(calls):
            held = copy.deepcopy(handed)
            answer = told(*handed)
            self.assertEqual(handed, held, told)
            first.append(copy.deepcopy(answer))
            self.spoil(answer)
            self.assertEqual(handed, held, told)
        for _ in range(2):
            for (told, *handed), wanted in reversed(list(zip(calls, first))):
                self.assertEqual(told(*handed), wanted, told)


class Same(unittest.TestCase):
    def forms(self, tested):
        """All that must do the same as a tested program."""
        bare = bared(tested)
        thin = lean(tested)
        found = [tested, bare, thin, lean(bare), bared(thin)]
        return found + [read_rows(written_rows(form)) for form in found]

    def same_beats(self, tested, handed, told, width):
        """By one row in each beat and, where there are few rows, by as few beats as can be."""
        many = len(tested[2][0][0])
        self.assertEqual(run_beats(tested, 1, [[row] for row in range(many)], handed), told)
        if many <= 9:
            beats = packed(tested, width)
            self.assertIs(fits(tested, width, beats), True)
            self.assertEqual(run_beats(tested, width, beats, handed), told)

    def is_one(self, tested):
        return len(tested[2]) == 1 and all([piece == -1 for _, piece in tested[2][0][1]])

    def all_the_same(self, program, handed, fuel, width=2):
        """Tell the end."""
        told = run(program, handed, fuel)
        self.assertEqual(run(read(written(program)), handed, fuel), told)
        for form in self.forms(turned(program)):
            self.assertEqual(run_rows(form, handed, fuel), told, (program, handed, fuel))
            if self.is_one(form):
                self.same_beats(form, handed, told, width)
                self.same_back(form, handed, told)
        return told[1]

    def same_back(self, tested, handed, told):
        try:
            program = back(tested)
        except errors.TooMany:
            return
        self.assertEqual(run(program, handed, 0), told)
        again = turned(program)
        for form in (again, lean(bared(again))):
            self.assertEqual(run_rows(form, handed, 0), told)
        self.assertEqual(run(read(written(program)), handed, 0), told)


class TestTheSame(Same):
    def test_each_word(self):
        parts = [(word, A, B) for word in ("add", "take", "times", "over", "rest", "less", "same", "and", "or")]
        parts += [("not", A), ("get", A), ("pick", A, B, C), num(5), A]
        for part in parts:
            for body in ((("say", part),), (("set", 2, part), ("say", C)), (("stop", part), ("say", A)),
                         (("put", part, B), ("say", ("get", B))), (("if", part, (("say", A),), (("say", B),)),),
                         (("while", part, (("set", 0, ("take", A, num(1))), ("say", A))),)):
                for handed in itertools.product((0, 1, 16), repeat=2):
                    self.all_the_same((2, 3, body), list(handed), 3)

    def test_faults_in_a_side(self):
        for bad in (("over", num(1), B), ("rest", num(1), B), ("get", num(16))):
            for body in ((("say", ("pick", A, bad, num(3))), ("say", num(1))), (("say", ("and", A, bad)), ("say", A)),
                         (("if", A, (("say", bad), ("stop", num(2))), (("say", num(4)), ("stop", num(3)))), ("say", A)),
                         (("if", A, (), (("put", bad, A),)), ("put", num(3), A), ("say", ("get", num(3))))):
                for handed in ([0], [1], [7]):
                    self.all_the_same((1, 2, body), handed, 0, 4)

    def test_made_programs(self):
        made = Made(44)
        ends = []
        for _ in range(300):
            ins = made.chance.randrange(4)
            program = (ins, 4, made.body(2))
            for fuel in (0, 2, 30):
                handed = [made.chance.choice(WORTHS) for _ in range(ins)]
                ends.append(self.all_the_same(program, handed, fuel, made.chance.randint(1, 4)))
        for end in (("long",), ("fault", "over"), ("fault", "cell"), ("worth", 0)):
            self.assertGreater(ends.count(end), 30)

    def test_made_programs_without_whiles(self):
        made = Made(45)
        many = 0
        while many < 120:
            ins = made.chance.randrange(4)
            program = (ins, 4, made.body(2))
            if "'while'" not in repr(program):
                many += 1
                for handed in itertools.product((0, 1, 16), repeat=ins):
                    self.all_the_same(program, list(handed), 0, made.chance.randint(1, 4))

    def test_made_rows(self):
        for seed, registers, tests in ((46, 5, 4), (47, 12, 6)):
            made = MadeRows(seed, registers, tests)
            for _ in range(300):
                for tested in (made.tested(), made.one_piece(9)):
                    handed = made.handed(tested[0])
                    told = run_rows(tested, handed, 5)
                    for form in self.forms(tested):
                        self.assertEqual(run_rows(form, handed, 5), told)
                        if self.is_one(form):
                            self.same_beats(form, handed, told, made.chance.randint(1, 4))
                            self.same_back(form, handed, told)


if __name__ == "__main__":
    unittest.main()
