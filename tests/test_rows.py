"""Point [6]: what a tested program is, and what BadTested is refused for."""

import unittest

from testedrows.errors import BadTested
from testedrows.machine import counts, run_rows
from testedrows.rows import check_tested

END = ((0, -1),)
SAY = (0, "say", 0)
TWO_READ = ("add", "take", "times", "over", "rest", "less", "same")
# A good row of each word, and the bounds of its numbers, by their places.
REGISTER, WORTH, MADE, TEST = (0, 1999), (0, 10006), (1, 1999), (0, 1999)
WORDS = {
    "num": ((0, "num", 5, 7), (REGISTER, WORTH)),
    "copy": ((0, "copy", 5, 6), (REGISTER, REGISTER)),
    "not": ((0, "not", 5, 6), (REGISTER, REGISTER)),
    "get": ((0, "get", 5, 6), (REGISTER, REGISTER)),
    "put": ((0, "put", 5, 6), (REGISTER, REGISTER)),
    "say": ((0, "say", 5), (REGISTER,)),
    "stop": ((0, "stop", 5), (REGISTER,)),
    "test": ((0, "test", 5, 6, 7), (MADE, MADE, REGISTER)),
}
WORDS.update({word: ((0, word, 5, 6, 7), (REGISTER, REGISTER, REGISTER)) for word in TWO_READ})
NO_NUMBERS = (None, True, False, "", "1", "num", (), (1,), [], [1])
NO_TUPLES = (None, True, False, 0, -1, 3, "", "ab", "abc", [], [1, 2], [0, 0, 0])


def refusal(tested):
    """(piece, row), None for a tested program."""
    try:
        check_tested(tested)
    except BadTested as bad:
        return (bad.piece, bad.row)
    return None


def of_rows(*rows):
    return (0, 0, ((tuple(rows), END),))


def of_goes(goes, rows=()):
    """Three pieces, of which the one in the middle has the goes."""
    return (0, 0, (((), END), (rows, goes), ((), END)))


def with_item(things, at, other):
    return things[:at] + (other,) + things[at + 1:]


class Refused(unittest.TestCase):
    def is_refused(self, tested, piece, row):
        self.assertEqual(refusal(tested), (piece, row), tested)

    def is_good(self, tested):
        self.assertIsNone(refusal(tested), tested)

    def row_is_refused(self, row):
        self.is_refused(of_rows(row), 0, 0)
        self.is_refused(of_rows(SAY, SAY, row, SAY), 0, 2)

    def row_is_good(self, row):
        self.is_good(of_rows(row))
        self.is_good(of_rows(SAY, row, SAY))


class TestFrame(Refused):
    """What is refused with (-1, -1)."""

    PIECES = (((), END),)

    def test_good_ones(self):
        for ins in range(4):
            for names in (ins, ins + 1, 98, 99):
                self.is_good((ins, names, self.PIECES))

    def test_no_tuple_of_three(self):
        for tested in NO_TUPLES + ((), (0,), (0, 0), (0, 0, self.PIECES, 0), (0, 0, self.PIECES, self.PIECES),
                                   [0, 0, self.PIECES], (0, self.PIECES), self.PIECES, "tested"):
            self.is_refused(tested, -1, -1)

    def test_ins(self):
        for ins in (-1, 4, 5, 99, 10 ** 30) + NO_NUMBERS:
            self.is_refused((ins, 99, self.PIECES), -1, -1)

    def test_names(self):
        for ins in range(4):
            for names in (ins - 1, -1, 100, 101, 10 ** 30) + NO_NUMBERS:
                self.is_refused((ins, names, self.PIECES), -1, -1)

    def test_pieces_that_are_no_tuple(self):
        for pieces in (None, True, False, 0, 1, "", "a", [], [((), END)]):
            self.is_refused((0, 0, pieces), -1, -1)

    def test_how_many_pieces(self):
        self.is_refused((0, 0, ()), -1, -1)
        for many in (1, 2, 998, 999):
            self.is_good((0, 0, self.PIECES * many))
        for many in (1000, 1001, 2000):
            self.is_refused((0, 0, self.PIECES * many), -1, -1)

    def test_ahead_of_what_is_wrong_in_pieces(self):
        self.is_refused((4, 4, (None,)), -1, -1)
        self.is_refused((1, 0, (None,)), -1, -1)
        self.is_refused((0, 0, (None,) * 1000), -1, -1)
        self.is_refused((0, 0, (None,) * 999), 0, -1)


class TestPieces(Refused):
    def test_no_tuple_of_two_whose_first_is_one(self):
        for piece in NO_TUPLES + ((), ((),), ((), END, END), [(), END], ([], END), (None, END), (0, END), ("", END),
                                  (True, END), ([SAY], END), (None, None)):
            self.is_refused((0, 0, (piece,)), 0, -1)
            self.is_refused((0, 0, (((), END), ((SAY,), END), piece, ((), END))), 2, -1)

    def test_how_many_rows(self):
        for many in (0, 1, 2, 1499, 1500):
            self.is_good((0, 0, (((SAY,) * many, END),)))
            self.is_good((0, 0, (((), END), ((SAY,) * many, END))))
        for many in (1501, 1502, 3000):
            self.is_refused((0, 0, (((SAY,) * many, END),)), 0, -1)
            self.is_refused((0, 0, (((), END), ((SAY,) * many, END))), 1, -1)

    def test_each_piece_may_have_as_many_rows(self):
        self.is_good((0, 0, (((SAY,) * 1500, END),) * 3))

    def test_too_many_rows_are_ahead_of_a_bad_one(self):
        self.is_refused((0, 0, (((None,) * 1501, END),)), 0, -1)
        self.is_refused((0, 0, (((SAY,) * 1501, None),)), 0, -1)
        self.is_refused((0, 0, (((SAY,) * 1499 + (None,), END),)), 0, 1499)
        self.is_refused((0, 0, (((SAY,) * 1500, None),)), 0, 1500)


class TestRows(Refused):
    def test_each_word(self):
        for row, _ in WORDS.values():
            self.row_is_good(row)

    def test_each_number_at_its_bounds_and_one_beyond(self):
        for row, bounds in WORDS.values():
            for at, (least, most) in enumerate(bounds, 2):
                for number in (least, least + 1, most - 1, most):
                    self.row_is_good(with_item(row, at, number))
                for number in (least - 1, most + 1, -1, 10007, 10 ** 30, -10 ** 30):
                    self.row_is_refused(with_item(row, at, number))

    def test_the_bounds_of_registers_and_worths_are_not_mixed_up(self):
        self.row_is_good((0, "num", 1999, 2000))
        self.row_is_refused((0, "num", 2000, 1999))
        self.row_is_refused((0, "test", 0, 1, 0))
        self.row_is_refused((0, "test", 1, 0, 0))
        self.row_is_good((0, "test", 1, 2, 0))
        self.row_is_good((0, "test", 1999, 1998, 0))

    def test_the_row_s_own_test(self):
        for row, _ in WORDS.values():
            for test in (0, 1, 2, 1998, 1999):
                self.row_is_good(with_item(row, 0, test))
            for test in (-1, 2000, 10006, 10 ** 30) + NO_NUMBERS:
                self.row_is_refused(with_item(row, 0, test))

    def test_no_numbers(self):
        for row, bounds in WORDS.values():
            for at in range(2, len(row)):
                for other in NO_NUMBERS:
                    self.row_is_refused(with_item(row, at, other))

    def test_another_count(self):
        for row, _ in WORDS.values():
            for many in range(len(row)):
                self.row_is_refused(row[:many])
            for more in ((1,), (1, 2), (None,), ((),)):
                self.row_is_refused(row + more)

    def test_another_word(self):
        for word in ("", "Num", "num ", "and", "or", "pick", "set", "if", "while", "name", "go", "piece", "write",
                     "read", "0", 0, 1, None, True, (), [], ["num"], ("num",)):
            for behind in ((), (1,), (1, 2), (1, 2, 3), (1, 2, 3, 4)):
                self.row_is_refused((0, word) + behind)

    def test_the_word_first(self):
        for row, _ in WORDS.values():
            self.row_is_refused(row[1:])
            self.row_is_refused((row[1], row[0]) + row[2:])

    def test_tests_that_are_alike(self):
        for test in (1, 2, 1998, 1999):
            self.row_is_refused((0, "test", test, test, 0))
        self.row_is_good((0, "test", 1, 1999, 0))
        self.row_is_good((0, "test", 1999, 1, 0))

    def test_only_the_tests_made_must_be_unlike(self):
        self.row_is_good((3, "test", 3, 4, 3))
        self.row_is_good((4, "test", 3, 4, 4))
        self.row_is_good((5, "add", 5, 5, 5))
        self.row_is_good((5, "put", 5, 5))
        self.row_is_good((5, "copy", 5, 5))

    def test_no_tuple(self):
        for row in NO_TUPLES + (("num",), (None, None)):
            self.row_is_refused(row)
        for row, _ in WORDS.values():
            self.row_is_refused(list(row))
            self.row_is_refused((row,))

    def test_registers_beyond_the_names(self):
        self.is_good((1, 2, ((((0, "num", 1999, 0), (0, "say", 2), (0, "say", 0)), END),)))


class TestGoes(Refused):
    def test_how_many(self):
        for many in range(1, 9):
            self.is_good(of_goes(((5, 2),) * (many - 1) + END))
        for many in (0, 9, 10, 100):
            self.is_refused(of_goes(END * many), 1, 0)
            self.is_refused(of_goes(END * many, (SAY, SAY)), 1, 2)

    def test_the_last_one_s_test(self):
        for test in (1, 2, 1999):
            for many in (0, 1, 7):
                self.is_refused(of_goes(END * many + ((test, -1),)), 1, 0)
        self.is_good(of_goes(((0, 0), (0, 1), (0, 2), (0, -1))))

    def test_tests_of_the_others(self):
        for test in (0, 1, 1998, 1999):
            self.is_good(of_goes(((test, 2), (0, 2))))
            self.is_good(of_goes(((0, 2), (test, 2), (0, 2))))
        for test in (-1, 2000, 10 ** 30) + NO_NUMBERS:
            self.is_refused(of_goes(((test, 2), (0, 2))), 1, 0)
            self.is_refused(of_goes(((0, 2), (test, 2), (0, 2))), 1, 0)
            self.is_refused(of_goes(((0, 2), (test, 2))), 1, 0)
            self.is_refused(of_goes(((test, 2),)), 1, 0)

    def test_pieces(self):
        for piece in (-1, 0, 1, 2):
            self.is_good(of_goes(((0, piece),)))
            self.is_good(of_goes(((7, piece), (0, 0))))
        for piece in (-2, 3, 4, 998, 10 ** 30) + NO_NUMBERS:
            self.is_refused(of_goes(((0, piece),)), 1, 0)
            self.is_refused(of_goes(((7, piece), (0, 0))), 1, 0)

    def test_the_last_piece_of_all(self):
        for many in (1, 2, 500, 999):
            good = (((), ((0, many - 1),)),) * many
            self.is_good((0, 0, good))
            self.is_refused((0, 0, good[1:] + (((), ((0, many),)),)), many - 1, 0)

    def test_no_tuples(self):
        for goes in NO_TUPLES + ([(0, -1)], (0, -1), ([0, -1],), ((0,),), ((0, -1, -1),), ((),), (None,), (0,), ("ab",),
                                 ((0, -1), None), (None, (0, -1)), ([0, -1], (0, -1)), (True,)):
            self.is_refused(of_goes(goes), 1, 0)

    def test_the_number_of_rows(self):
        for many in (0, 1, 2, 77, 1500):
            self.is_refused(of_goes((), (SAY,) * many), 1, many)
            self.is_refused(of_goes(None, (SAY,) * many), 1, many)


class TestTheFirst(Refused):
    """Where several are wrong."""

    BAD_ROW = (0, "say", 2000)

    def test_the_first_row(self):
        self.is_refused(of_rows(SAY, self.BAD_ROW, None, self.BAD_ROW), 0, 1)
        self.is_refused(of_rows(None, self.BAD_ROW), 0, 0)

    def test_a_row_ahead_of_goes(self):
        self.is_refused((0, 0, (((SAY, SAY, self.BAD_ROW), None),)), 0, 2)
        self.is_refused((0, 0, (((SAY, SAY), None),)), 0, 2)

    def test_the_first_piece(self):
        good = ((SAY,), END)
        bad_goes = ((SAY, SAY), ((1, -1),))
        bad_row = ((self.BAD_ROW, SAY), END)
        bad_piece = ([], END)
        kinds = ((bad_goes, 2), (bad_row, 0), (bad_piece, -1))
        for one, row in kinds:
            for other, _ in kinds:
                self.is_refused((0, 0, (one, other)), 0, row)
                self.is_refused((0, 0, (good, one, good, other)), 1, row)
                self.is_refused((0, 0, (good, good, good, one)), 3, row)

    def test_the_last_piece_and_row_are_looked_at(self):
        pieces = (((SAY,) * 5, END),) * 998
        self.is_refused((0, 0, pieces + (((SAY,) * 4 + (self.BAD_ROW,), END),)), 998, 4)
        self.is_refused((0, 0, pieces + (((SAY,) * 5, ((0, 999),)),)), 998, 5)

    def test_pieces_that_nobody_goes_to(self):
        self.is_refused((0, 0, (((), END), ((None,), END))), 1, 0)


class TestByWhom(Refused):
    def test_by_run_rows_and_counts(self):
        for tested in ((0, 0, ()), (0, 0, (None,)), of_rows(SAY, None), of_goes(None, (SAY,))):
            for told in (run_rows, counts):
                with self.assertRaises(BadTested) as caught:
                    told(tested, [], 0)
                self.assertEqual((caught.exception.piece, caught.exception.row), refusal(tested))

    def test_good_ones_are_run(self):
        for row, _ in WORDS.values():
            run_rows(of_rows(row), [], 0)
            self.assertEqual(counts(of_rows(row), [], 0), (1, 1))


if __name__ == "__main__":
    unittest.main()
