"""Points [1] and [12]: programs that do what tested rows of one piece do, and which tested programs are refused."""

import copy
import itertools
import unittest

from made import Made, MadeRows
from testedrows.backing import back
from testedrows.errors import BadTested, NotOne, TooMany
from testedrows.machine import run_rows
from testedrows.plain import run
from testedrows.programs import check_program
from testedrows.turning import turned

END = ((0, -1),)
WORTHS = (0, 1, 2, 15, 16, 10006)
TWO_READ = ("add", "take", "times", "over", "rest", "less", "same")
# The names are 0 and 1, which are handed in; all that is written is said by SAYS.
ROWS = [("num", 5, 9), ("num", 0, 0), ("copy", 5, 0), ("copy", 0, 1), ("not", 5, 0), ("not", 1, 1), ("get", 5, 0),
        ("get", 0, 0), ("put", 0, 1), ("put", 1, 0), ("say", 0), ("say", 6), ("stop", 0), ("stop", 1)]
ROWS += [(word, *numbers) for word in TWO_READ for numbers in ((5, 0, 1), (0, 0, 1), (1, 0, 1), (0, 0, 0))]
SAYS = tuple([(0, "say", number) for number in (0, 1, 5)])


def of_rows(*rows, ins=2, names=2, goes=END):
    return (ins, names, ((tuple(rows), goes),))


def under(test, *rows):
    return tuple([(test,) + row for row in rows])


class Back(unittest.TestCase):
    def is_back(self, tested, worths=WORTHS):
        """Tell the ends, by what is handed in."""
        program = back(tested)
        check_program(program)
        self.assertEqual(program[0], tested[0])
        self.assertTrue(tested[1] <= program[1] <= 99)
        ends = []
        for handed in itertools.product(worths, repeat=tested[0]):
            told = run_rows(tested, list(handed), 0)
            for fuel in (0, 1000):
                self.assertEqual(run(program, list(handed), fuel), told, (tested, handed))
            ends.append(told[1])
        return ends

    def is_refused(self, refusal, tested):
        with self.assertRaises(refusal) as caught:
            back(tested)
        self.assertIs(type(caught.exception), refusal)


class TestRows(Back):
    def test_no_rows(self):
        for ins in range(4):
            for names in (ins, 50, 99):
                self.is_back(of_rows(ins=ins, names=names), worths=(0, 7))

    def test_each_word(self):
        for row in ROWS:
            self.is_back(of_rows((0,) + row, *SAYS))

    def test_each_word_under_a_test(self):
        for row in ROWS:
            for test in (1, 2, 3, 1999):
                self.is_back(of_rows((0, "test", 1, 2, 0), (test,) + row, *SAYS))
                self.is_back(of_rows((test,) + row, (0, "test", 1, 2, 0), *SAYS))

    def test_faults_and_stops_with_and_without_their_tests_holding(self):
        for row, end in ((("over", 5, 1, 6), ("fault", "over")), (("rest", 5, 1, 6), ("fault", "over")),
                         (("get", 5, 7), ("fault", "cell")), (("put", 7, 7), ("fault", "cell")),
                         (("stop", 7), ("worth", 16))):
            rows = ((0, "num", 7, 16), (0, "test", 1, 2, 0), (1,) + row, (0, "say", 1))
            ends = self.is_back(of_rows(*rows))
            self.assertEqual(set(ends), {end, ("worth", 0)})
            self.assertEqual(ends.count(("worth", 0)), len(WORTHS))

    def test_cells(self):
        self.is_back(of_rows((0, "put", 0, 1), (0, "get", 5, 1), (0, "put", 5, 0), (0, "get", 6, 0), (0, "say", 6)))

    def test_what_is_reckoned_in_a_name(self):
        self.is_back(of_rows((0, "add", 0, 0, 1), (0, "times", 1, 0, 0), *SAYS))

    def test_registers_hold_0_at_first_and_the_last_one_is_known(self):
        self.is_back(of_rows((0, "say", 1999), (0, "add", 1999, 0, 1), (0, "say", 1999), (0, "say", 1998)))

    def test_a_register_and_a_test_of_the_same_number(self):
        for number in (1, 2, 5):
            other = number + 1
            self.is_back(of_rows((0, "test", number, other, 0), (number, "num", number, 7), (other, "num", other, 8),
                                 (0, "say", number), (0, "say", other)))


class TestTests(Back):
    def test_two_rows_that_make_the_same(self):
        for one, other in itertools.product(itertools.permutations((1, 2, 3), 2), repeat=2):
            for first, second in itertools.product((0, 1, 2, 3), repeat=2):
                rows = ((first, "test", *one, 0), (second, "test", *other, 1))
                self.is_back(of_rows(*rows, *under(1, ("say", 0)), *under(2, ("say", 1)), *under(3, ("say", 7))),
                             worths=(0, 5))

    def test_turned_about(self):
        says = under(1, ("say", 0)) + under(2, ("say", 1))
        self.is_back(of_rows((0, "test", 2, 1, 0), *says))
        self.is_back(of_rows((0, "test", 1, 2, 0), (1, "test", 2, 1, 1), *says))
        self.is_back(of_rows((0, "test", 1, 2, 0), (2, "test", 2, 1, 1), *says))

    def test_never_made(self):
        for row in ROWS:
            self.is_back(of_rows((9,) + row, *SAYS), worths=(0, 3))
        self.is_back(of_rows((9, "test", 1, 2, 0), (1, "say", 0), (2, "say", 0)))

    def test_made_under_themselves(self):
        says = under(1, ("say", 0)) + under(2, ("say", 1)) + ((0, "say", 0),)
        self.is_back(of_rows((1, "test", 1, 2, 0), *says))
        self.is_back(of_rows((2, "test", 1, 2, 0), *says))
        for own, p, q in itertools.product((1, 2), (1, 2, 3), (1, 2, 3)):
            if p != q:
                self.is_back(of_rows((0, "test", 1, 2, 0), (own, "test", p, q, 1), *says, (3, "say", 8)))

    def test_made_again_where_the_row_is_not_done(self):
        self.is_back(of_rows((0, "test", 1, 2, 0), (0, "test", 3, 4, 1), (1, "test", 3, 5, 1), (3, "say", 0),
                             (4, "say", 1), (5, "say", 0)))

    def test_the_register_is_read_when_the_row_is_looked_at(self):
        self.is_back(of_rows((0, "test", 1, 2, 0), (0, "num", 0, 0), (1, "say", 1), (2, "say", 0)))

    def test_a_worth_that_is_more_than_1(self):
        self.is_back(of_rows((0, "test", 1, 2, 0), (1, "test", 3, 4, 1), (3, "add", 5, 0, 1), (4, "num", 5, 3),
                             (0, "say", 5)))


class TestOne(Back):
    """NotOne for others than one piece, all of whose goes are -1."""

    def test_goes(self):
        for goes in (END, ((1, -1), (0, -1)), ((0, -1),) * 8, ((1999, -1), (0, -1))):
            self.is_back(of_rows((0, "say", 0), goes=goes))
        for goes in (((0, 0),), ((1, 0), (0, -1)), ((0, -1), (0, 0)), ((0, -1),) * 6 + ((5, 0), (0, -1))):
            self.is_refused(NotOne, of_rows((0, "say", 0), goes=goes))

    def test_several_pieces(self):
        piece = (((0, "say", 0),), END)
        for many in (2, 3, 999):
            self.is_refused(NotOne, (0, 0, (piece,) * many))
        self.is_refused(NotOne, (0, 0, (piece, ((), ((0, 1),)))))
        self.is_refused(NotOne, (0, 0, (((), END), ((), END))))

    def test_behind_bad_ones_and_ahead_of_too_many(self):
        rows = ((0, "say", 0),) * 31
        self.is_refused(NotOne, of_rows(*rows, goes=((0, 0),)))
        self.is_refused(NotOne, (0, 0, ((rows, END), (rows, END))))
        self.is_refused(NotOne, of_rows((1, "say", 99), names=99, goes=((0, 0),)))
        self.is_refused(BadTested, of_rows(*rows, None))
        self.is_refused(BadTested, (0, 0, ((rows, END), (rows, None))))
        self.is_refused(BadTested, of_rows(*rows, goes=()))
        self.is_refused(BadTested, of_rows(*rows, goes=((0, 1),)))


class TestTooMany(Back):
    def test_rows(self):
        for many in (0, 1, 29, 30):
            self.is_back(of_rows(*[(0, "say", 0)] * many), worths=(0, 5))
        for many in (31, 32, 1500):
            self.is_refused(TooMany, of_rows(*[(0, "say", 0)] * many))

    def test_thirty_of_each_word_are_a_program(self):
        for row in ROWS + [("test", 1, 2, 0), ("test", 3, 4, 0)]:
            for test in (0, 1, 2):
                self.is_back(of_rows((0, "test", 1, 2, 0), *[(test,) + row] * 29), worths=(0, 3))

    def test_thirty_tests_of_their_own(self):
        tests = [(at, "test", at + 1, at + 31, at % 2) for at in range(30)]
        self.is_back(of_rows(*tests))
        says = [(at, "say", at % 2) for at in (1, 2, 15, 16, 31, 32, 45)]
        self.is_back(of_rows(*tests[:15], *says))

    def test_registers_together_with_names(self):
        rows = [(0, "add", 3 * at, 3 * at + 1, 3 * at + 2) for at in range(30)]
        self.is_back(of_rows(*rows, ins=2, names=2), worths=(0, 3))
        self.assertEqual(90, len({number for row in rows for number in row[2:]}))
        more = [(0, "add", *range(1900 + 3 * at, 1903 + 3 * at)) for at in range(3)]
        for names in (90, 50, 0):
            self.is_back(of_rows(*rows[:27], *more, ins=0, names=names))
        self.is_refused(TooMany, of_rows(*rows[:27], *more, ins=0, names=91))

    def test_ninety_nine_and_a_hundred(self):
        self.is_back(of_rows(ins=0, names=99))
        self.is_back(of_rows((0, "say", 98), ins=0, names=99))
        self.is_refused(TooMany, of_rows((0, "say", 99), ins=0, names=99))
        self.is_refused(TooMany, of_rows((0, "num", 99, 0), ins=0, names=99))
        self.is_refused(TooMany, of_rows((1, "say", 98), ins=0, names=99))
        self.is_back(of_rows((0, "say", 98), ins=0, names=98))
        self.is_back(of_rows((1, "say", 97), ins=0, names=98))
        self.is_refused(TooMany, of_rows((1, "say", 98), ins=0, names=98))
        self.is_back(of_rows((0, "test", 1, 2, 0), ins=1, names=97))
        self.is_refused(TooMany, of_rows((0, "test", 1, 2, 0), ins=1, names=98))
        self.is_refused(TooMany, of_rows((0, "test", 1, 2, 97), ins=1, names=97))
        self.is_refused(TooMany, of_rows((3, "test", 1, 2, 0), ins=1, names=97))
        self.is_back(of_rows((2, "test", 1, 2, 0), (0, "test", 2, 1, 96), (1, "say", 0), ins=1, names=97))

    def test_registers_and_tests_that_names_do_not_reach(self):
        # 30 rows of three registers, 9 tests: 99 in all; one test, or one register, more: 100.
        rows = [(at % 10, "add", 3 * at + 100, 3 * at + 101, 3 * at + 102) for at in range(30)]
        self.is_back(of_rows(*rows, ins=0, names=0))
        self.is_refused(TooMany, of_rows((10,) + rows[0][1:], *rows[1:], ins=0, names=0))
        self.is_refused(TooMany, of_rows(*rows, ins=1, names=1))
        self.is_refused(TooMany, of_rows(*rows, ins=0, names=1))
        self.is_back(of_rows(*rows[:29], rows[29][:4] + (0,), ins=0, names=1))

    def test_tests_of_goes_do_not_stand_in_rows(self):
        goes = tuple([(test, -1) for test in range(7, 0, -1)]) + END
        self.is_back(of_rows((0, "say", 98), ins=0, names=99, goes=goes))

    def test_names_of_which_no_row_speaks(self):
        for names in (2, 3, 96):
            program = back(of_rows((0, "test", 5, 6, 0), (5, "num", 500, 3), ins=2, names=names))
            self.assertEqual(program[:2], (2, names + 3))

    def test_both_reasons(self):
        rows = [(at % 12, "add", 3 * at, 3 * at + 1, 3 * at + 2) for at in range(31)]
        self.is_refused(TooMany, of_rows(*rows, ins=0, names=99))


class TestMade(Back):
    def test_made_rows(self):
        ends = []
        for seed, registers, tests, most in ((1, 5, 5, 9), (2, 9, 3, 30), (3, 30, 9, 30), (4, 3, 4, 15)):
            made = MadeRows(seed, registers, tests)
            for _ in range(400):
                tested = made.one_piece(most)
                program = back(tested)
                check_program(program)
                for _ in range(3):
                    handed = made.handed(tested[0])
                    told = run_rows(tested, handed, 0)
                    self.assertEqual(run(program, handed, 0), told, tested)
                    ends.append(told[1])
        for end in (("fault", "over"), ("fault", "cell"), ("worth", 0), ("worth", 16)):
            self.assertGreater(ends.count(end), 20)

    def test_made_programs_there_and_back(self):
        made = Made(5)
        many = 0
        for _ in range(1500):
            ins = made.chance.randrange(4)
            program = (ins, 4, made.body(2))
            tested = turned(program)
            if len(tested[2]) == 1 and len(tested[2][0][0]) <= 30:
                many += 1
                self.is_back(tested, worths=(0, 16))
                again = turned(back(tested))
                handed = [made.chance.choice(WORTHS) for _ in range(ins)]
                self.assertEqual(run_rows(again, handed, 0), run(program, handed, 0))
        self.assertGreater(many, 200)


class TestRefusals(Back):
    def test_what_is_no_tested_program(self):
        for tested, piece, row in ((None, -1, -1), ((), -1, -1), ((0, 0, ()), -1, -1), ((0, 0, (None,)), 0, -1),
                                   (of_rows((0, "say", 0), None), 0, 1), (of_rows((0, "say", True)), 0, 0),
                                   (of_rows((0, "test", 2, 2, 0)), 0, 0), (of_rows((0, "say", 0), goes=()), 0, 1)):
            with self.assertRaises(BadTested) as caught:
                back(tested)
            self.assertEqual((caught.exception.piece, caught.exception.row), (piece, row))

    def test_nothing_is_changed_and_asked_again(self):
        tested = of_rows((0, "test", 1, 2, 0), (1, "num", 5, 7), (0, "say", 5))
        held = copy.deepcopy(tested)
        first = back(tested)
        back(of_rows((0, "test", 3, 1, 0), (1, "num", 6, 7)))
        self.is_refused(TooMany, of_rows(*[(0, "say", 0)] * 31))
        self.assertEqual(back(tested), first)
        self.assertEqual(tested, held)


if __name__ == "__main__":
    unittest.main()
