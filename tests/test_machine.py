"""Points [1], [7] and [8]: how the machine goes, which rows are done, rounds and fuel, and what is told."""

import copy
import unittest

from made import SIGNS, MadeRows
from testedrows.errors import BadFuel, BadHanded, BadTested
from testedrows.machine import counts, run_rows

NO_CELLS = [0] * 16
END = ((0, -1),)
WORTH_0 = ("worth", 0)


def of_pieces(*pieces, ins=0, names=0):
    return (ins, names, tuple([(tuple(rows), goes) for rows, goes in pieces]))


def of_rows(*rows, ins=0, names=0):
    return of_pieces((rows, END), ins=ins, names=names)


def cells_with(puts):
    return [puts.get(cell, 0) for cell in range(16)]


def nums(*numbers):
    """Rows that write the numbers in the registers from 10 on."""
    return tuple([(0, "num", 10 + at, n) for at, n in enumerate(numbers)])


class Told(unittest.TestCase):
    def tells(self, tested, said, end=WORTH_0, puts=None, handed=(), fuel=0):
        told = run_rows(tested, list(handed), fuel)
        self.assertEqual(told, (said, end, cells_with(puts or {})), tested)
        self.assertEqual([type(kind) for kind in told], [list, tuple, list])
        self.assertEqual({type(worth) for worth in told[0] + told[2]} - {int}, set())

    def counts_are(self, tested, looked, done, handed=(), fuel=0):
        told = counts(tested, list(handed), fuel)
        self.assertEqual(told, (looked, done), tested)
        self.assertEqual([type(many) for many in told], [int, int])

    def comes_to(self, word, worths, worth):
        """A row of the word, which reads the registers 10 and, for two worths, 11, writes the worth."""
        reads = tuple(range(10, 10 + len(worths)))
        self.tells(of_rows(*nums(*worths), (0, word, 20) + reads, (0, "say", 20)), [worth])

    def faults(self, word, worths, fault):
        reads = tuple(range(10, 10 + len(worths)))
        tested = of_rows(*nums(*worths), (0, "say", 10), (0, word, 20) + reads, (0, "say", 20))
        self.tells(tested, [worths[0]], ("fault", fault))


class TestWords(Told):
    def test_num(self):
        for n in (0, 1, 10006):
            self.tells(of_rows((0, "num", 3, n), (0, "say", 3)), [n])

    def test_copy(self):
        for n in (0, 1, 10006):
            self.comes_to("copy", [n], n)

    def test_not(self):
        for n, worth in ((0, 1), (1, 0), (2, 0), (10006, 0)):
            self.comes_to("not", [n], worth)

    def test_two_worths(self):
        for word, one, other, worth in (
                ("add", 2, 3, 5), ("add", 10006, 1, 0), ("add", 10006, 10006, 10005),
                ("take", 5, 3, 2), ("take", 3, 5, 10005), ("take", 0, 10006, 1),
                ("times", 2, 3, 6), ("times", 10006, 10006, 1), ("times", 101, 100, 93),
                ("over", 7, 3, 2), ("over", 2, 3, 0), ("over", 10006, 1, 10006), ("over", 0, 5, 0),
                ("rest", 7, 3, 1), ("rest", 2, 3, 2), ("rest", 10006, 1, 0), ("rest", 10005, 10006, 10005),
                ("less", 2, 3, 1), ("less", 3, 2, 0), ("less", 3, 3, 0),
                ("same", 2, 3, 0), ("same", 3, 3, 1), ("same", 0, 0, 1)):
            self.comes_to(word, [one, other], worth)

    def test_over_and_rest_by_0(self):
        for word in ("over", "rest"):
            for one in (0, 1, 10006):
                self.faults(word, [one, 0], "over")

    def test_put_and_get(self):
        rows = nums(0, 15, 10006, 4) + ((0, "put", 10, 12), (0, "put", 11, 13), (0, "get", 20, 10), (0, "get", 21, 11),
                                       (0, "say", 20), (0, "say", 21), (0, "put", 10, 13), (0, "say", 20))
        self.tells(of_rows(*rows), [10006, 4, 10006], puts={0: 4, 15: 4})

    def test_cells_hold_0_at_first(self):
        for cell in range(16):
            self.comes_to("get", [cell], 0)

    def test_cells_that_there_are_not(self):
        for cell in (16, 17, 10006):
            self.faults("get", [cell], "cell")
            self.tells(of_rows(*nums(cell, 1), (0, "put", 10, 11), (0, "say", 10)), [], ("fault", "cell"))

    def test_put_puts_the_latter_in_the_former(self):
        self.tells(of_rows(*nums(3, 9), (0, "put", 10, 11)), [], puts={3: 9})
        self.tells(of_rows(*nums(3, 9), (0, "put", 11, 10)), [], puts={9: 3})
        self.tells(of_rows(*nums(3, 16), (0, "put", 10, 11)), [], puts={3: 16})

    def test_say_in_turn(self):
        self.tells(of_rows(*nums(5, 6), (0, "say", 11), (0, "say", 10), (0, "say", 10), (0, "say", 0)), [6, 5, 5, 0])

    def test_stop(self):
        for worth in (0, 1, 10006):
            rows = ((0, "num", 3, worth), (0, "say", 3), (0, "stop", 3), (0, "say", 3), (0, "stop", 4))
            tested = of_pieces((rows, ((0, 1),)), (((0, "say", 3),), END))
            self.tells(tested, [worth], ("worth", worth))

    def test_what_was_said_and_put_until_then(self):
        rows = nums(4, 9) + ((0, "say", 11), (0, "put", 10, 11))
        more = ((0, "say", 10), (0, "put", 10, 10))
        self.tells(of_rows(*rows, (0, "over", 5, 5, 5), *more), [9], ("fault", "over"), {4: 9})
        self.tells(of_rows(*rows, (0, "stop", 10), *more), [9], ("worth", 4), {4: 9})

    def test_a_row_reads_ahead_of_writing(self):
        self.tells(of_rows(*nums(7), (0, "times", 10, 10, 10), (0, "say", 10), (0, "not", 10, 10), (0, "say", 10),
                           (0, "not", 10, 10), (0, "say", 10)), [49, 0, 1])

    def test_a_fault_writes_nothing(self):
        self.counts_are(of_rows(*nums(7), (0, "rest", 10, 10, 11), (0, "say", 10)), 2, 2)


class TestRegisters(Told):
    def test_the_first_ones_are_the_names(self):
        rows = [(0, "say", name) for name in range(5)]
        self.tells(of_rows(*rows, ins=3, names=4), [7, 0, 10006, 0, 0], handed=[7, 0, 10006])
        self.tells(of_rows(*rows, ins=1, names=99), [7, 0, 0, 0, 0], handed=[7])

    def test_those_that_nobody_wrote_hold_0(self):
        self.tells(of_rows(*[(0, "say", name) for name in (0, 98, 99, 100, 1000, 1998, 1999)]), [0] * 7)
        self.tells(of_rows((0, "get", 5, 1999), (0, "stop", 1234)), [])

    def test_the_last_one(self):
        self.tells(of_rows((0, "num", 1999, 8), (0, "num", 0, 3), (0, "say", 1999)), [8])

    def test_names_are_written_as_others_are(self):
        self.tells(of_rows((0, "add", 0, 0, 1), (0, "say", 0), (0, "say", 1), ins=2, names=2), [12, 7], handed=[5, 7])

    def test_they_hold_on_from_piece_to_piece(self):
        tested = of_pieces((nums(5, 6) + ((0, "put", 10, 11),), ((0, 2),)),
                           (((0, "num", 10, 9),), END),
                           (((0, "say", 10), (0, "say", 11), (0, "get", 12, 10), (0, "say", 12)), END))
        self.tells(tested, [5, 6, 6], puts={5: 6})

    def test_they_hold_on_from_round_to_round(self):
        tested = of_pieces((((0, "add", 0, 0, 1), (0, "say", 0)), ((0, 0),)), ins=2, names=2)
        self.tells(tested, [3, 6, 9], ("long",), handed=[0, 3], fuel=2)


class TestTests(Told):
    def test_test_0_holds_and_no_other(self):
        rows = [(test, "say", 10) for test in (0, 1, 2, 1000, 1998, 1999)]
        self.tells(of_rows(*nums(5), *rows), [5])

    def test_p_if_it_is_not_0_and_q_if_it_is(self):
        rows = ((0, "test", 3, 4, 0), (3, "say", 1), (4, "say", 2))
        for handed in (1, 2, 10006):
            self.tells(of_rows(*rows, ins=3, names=3), [8], handed=[handed, 8, 9])
        self.tells(of_rows(*rows, ins=3, names=3), [9], handed=[0, 8, 9])

    def test_the_greater_one_as_p(self):
        rows = ((0, "test", 1999, 1, 0), (1999, "say", 1), (1, "say", 2))
        self.tells(of_rows(*rows, ins=3, names=3), [8], handed=[5, 8, 9])
        self.tells(of_rows(*rows, ins=3, names=3), [9], handed=[0, 8, 9])

    def test_tests_within_one_another(self):
        rows = ((0, "test", 1, 2, 0), (1, "test", 3, 4, 1), (2, "test", 5, 6, 1)) + nums(0, 1, 2, 3, 4, 5, 6)
        rows += tuple([(test, "say", 10 + test) for test in range(1, 7)])
        for one, other, said in ((1, 1, [1, 3]), (1, 0, [1, 4]), (0, 1, [2, 5]), (0, 0, [2, 6])):
            self.tells(of_rows(*rows, ins=2, names=2), said, handed=[one, other])

    def test_a_row_whose_test_does_not_hold_does_nothing(self):
        bad = ((1, "num", 11, 9), (1, "copy", 11, 10), (1, "not", 11, 10), (1, "get", 11, 12), (1, "over", 11, 12, 13),
               (1, "rest", 11, 12, 13), (1, "put", 12, 12), (1, "put", 13, 12), (1, "say", 10), (1, "stop", 10))
        bad += tuple([(1, word, 11, 12, 12) for word in ("add", "take", "times", "less", "same")])
        tested = of_rows(*nums(5, 6, 16, 0), *bad, (0, "say", 11))
        self.tells(tested, [6])
        self.counts_are(tested, 20, 5)

    def test_test_under_one_that_does_not_hold(self):
        # Behind it neither of the two holds, though they did ahead of it.
        for one in (0, 7):
            ahead = ((0, "test", 1, 2, 0), (0, "test", 2, 1, 0))
            for row in ahead:
                tested = of_rows(row, (9, "test", 1, 2, 0), (1, "say", 0), (2, "say", 0), (0, "say", 0), ins=1, names=1)
                self.tells(tested, [one], handed=[one])
                self.counts_are(tested, 5, 2, handed=[one])

    def test_tests_made_again(self):
        says = ((1, "say", 1), (2, "say", 2))
        rows = ((0, "test", 1, 2, 0),) + says + ((0, "not", 0, 0), (0, "test", 1, 2, 0)) + says
        self.tells(of_rows(*rows, ins=3, names=3), [8, 9], handed=[4, 8, 9])
        self.tells(of_rows(*rows, ins=3, names=3), [9, 8], handed=[0, 8, 9])

    def test_one_of_two_made_again(self):
        # The test 2 stays as it was.
        rows = ((0, "test", 1, 2, 0), (0, "test", 1, 3, 1)) + nums(0, 1, 2, 3)
        rows += tuple([(test, "say", 10 + test) for test in (1, 2, 3)])
        for one, other, said in ((1, 1, [1]), (1, 0, [3]), (0, 1, [1, 2]), (0, 0, [2, 3])):
            self.tells(of_rows(*rows, ins=2, names=2), said, handed=[one, other])

    def test_made_under_itself(self):
        # Its own test counts as it was looked at, whether it is the p or the q.
        for makes in ((1, 2), (2, 1)):
            rows = ((0, "test", 1, 3, 0), (1, "test") + makes + (1,)) + nums(0, 1, 2)
            rows += ((1, "say", 11), (2, "say", 12))
            for one, other in ((0, 0), (0, 1)):
                self.tells(of_rows(*rows, ins=2, names=2), [], handed=[one, other])
            self.tells(of_rows(*rows, ins=2, names=2), [makes[0]], handed=[1, 1])
            self.tells(of_rows(*rows, ins=2, names=2), [makes[1]], handed=[1, 0])

    def test_the_register_is_read_when_the_row_is_looked_at(self):
        rows = ((0, "test", 1, 2, 0), (0, "num", 0, 0), (1, "say", 1), (2, "say", 2))
        self.tells(of_rows(*rows, ins=3, names=3), [8], handed=[5, 8, 9])

    def test_rows_ahead_of_the_test(self):
        rows = ((1, "say", 0), (2, "say", 0), (0, "test", 1, 2, 0))
        for one in (0, 1):
            self.tells(of_rows(*rows, ins=1, names=1), [], handed=[one])

    def test_no_test_but_0_at_a_piece_s_begin(self):
        says = tuple([(test, "say", 5) for test in (0, 1, 2, 1999)])
        rows = ((0, "num", 5, 6), (0, "test", 1, 1999, 5), (1, "test", 3, 2, 6), (2, "say", 5))
        for goes in (((0, 1),), ((1, 1), (0, -1)), ((2, 1), (0, -1))):
            self.tells(of_pieces((rows, goes), (says, END)), [6, 6])

    def test_no_test_but_0_at_a_round_s_begin(self):
        rows = ((1, "say", 0), (2, "say", 0), (0, "test", 1, 2, 0))
        self.tells(of_pieces((rows, ((0, 0),)), ins=1, names=1), [], ("long",), handed=[4], fuel=3)


class TestGoes(Told):
    """Each piece from 1 on says its number."""

    def goes_to(self, goes, piece, handed):
        says = [(((0, "num", 5, at), (0, "say", 5)), END) for at in range(1, 4)]
        tested = of_pieces((((0, "test", 1, 2, 0), (0, "test", 3, 4, 1)), goes), *says, ins=2, names=2)
        self.tells(tested, [] if piece == -1 else [piece], handed=handed)

    def test_the_first_whose_test_holds(self):
        goes = ((1, 1), (3, 2), (0, 3))
        for handed, piece in (([1, 0], 1), ([1, 1], 1), ([0, 1], 2), ([0, 0], 3)):
            self.goes_to(goes, piece, handed)

    def test_those_behind_are_not_looked_at(self):
        self.goes_to(((0, 2), (1, 1), (0, 3)), 2, [1, 1])
        self.goes_to(((9, 1), (8, 2), (0, -1)), -1, [1, 1])
        self.goes_to(((4, -1), (2, 2), (0, 1)), -1, [0, 0])

    def test_eight(self):
        self.goes_to(((9, 1),) * 7 + ((0, 3),), 3, [1, 1])
        self.goes_to(((9, 1),) * 6 + ((1, 2), (0, 3)), 2, [1, 1])

    def test_none_ends_all_with_the_worth_0(self):
        self.tells(of_pieces((((0, "num", 0, 7), (0, "say", 0)), END), (((0, "say", 0),), END)), [7])

    def test_no_rows(self):
        self.tells(of_pieces(((), END)), [])
        self.tells(of_pieces(((), ((0, 2),)), ((), END), ((), ((1, 0), (0, 1)))), [], ("long",))
        self.tells(of_pieces(((), ((0, 2),)), ((), END), ((), ((1, 0), (0, 1)))), [], fuel=1)

    def test_tests_as_they_are_behind_the_rows(self):
        rows = ((0, "test", 1, 2, 0), (0, "test", 2, 1, 0))
        tested = of_pieces((rows, ((1, 1), (0, 2))), (((0, "stop", 1),), END), (((0, "stop", 2),), END), ins=3, names=3)
        self.tells(tested, [], ("worth", 8), handed=[0, 8, 9])
        self.tells(tested, [], ("worth", 9), handed=[1, 8, 9])


def counting(at, pieces, back):
    """Pieces of which the one numbered at counts the name 0 down, and goes back until it is 0."""
    down = ((0, "num", 10, 1), (0, "take", 0, 0, 10), (0, "say", 0), (0, "test", 1, 2, 0))
    through = [((), ((0, piece + 1),)) for piece in range(pieces)]
    through[at] = (down, ((1, back), (0, pieces - 1)))
    through[pieces - 1] = (((0, "say", 1),), END)
    return of_pieces(*through, ins=2, names=2)


class TestRounds(Told):
    def check_rounds(self, tested, many):
        """As many rounds as many are needed, where many + 1 is handed in, to say all down to 0, and 77."""
        said = list(range(many, -1, -1))
        for fuel in (many, many + 1, 1000):
            self.tells(tested, said + [77], handed=[many + 1, 77], fuel=fuel)
        for fuel in range(many):
            self.tells(tested, said[:fuel + 1], ("long",), handed=[many + 1, 77], fuel=fuel)

    def test_to_itself(self):
        for many in (0, 1, 2, 5):
            self.check_rounds(counting(0, 2, 0), many)
            self.check_rounds(counting(2, 4, 2), many)

    def test_to_one_ahead(self):
        for many in (0, 1, 2, 5):
            self.check_rounds(counting(1, 3, 0), many)
            self.check_rounds(counting(4, 6, 0), many)
            self.check_rounds(counting(4, 6, 3), many)

    def test_to_a_greater_one_is_none(self):
        many = 999
        pieces = [((), ((0, at + 1),)) for at in range(many - 1)] + [(((0, "say", 0),), END)]
        self.tells(of_pieces(*pieces, ins=1, names=1), [4], handed=[4], fuel=0)

    def test_to_none_is_none(self):
        for at in (0, 1, 5):
            pieces = [((), ((0, piece + 1),)) for piece in range(at)] + [((), END)]
            self.tells(of_pieces(*pieces), [], fuel=0)

    def test_fuel_1000(self):
        tested = counting(0, 2, 0)
        self.assertEqual(run_rows(tested, [1001, 77], 1000)[1], WORTH_0)
        self.assertEqual(run_rows(tested, [1002, 77], 1000)[1], ("long",))

    def test_rounds_of_all_pieces_count_together(self):
        say = ((0, "num", 5, 1), (0, "say", 5))
        tested = of_pieces((say, ((0, 1),)), (say, ((0, 0),)), (say, END))
        for fuel in range(5):
            self.tells(tested, [1] * (2 * fuel + 2), ("long",), fuel=fuel)

    def test_all_is_over_ahead_of_the_piece(self):
        tested = of_pieces((((0, "put", 0, 1), (0, "say", 1)), ((0, 0),)), ins=2, names=2)
        self.tells(tested, [9], ("long",), {3: 9}, handed=[3, 9], fuel=0)

    def test_a_stop_or_a_fault_ahead_of_a_round(self):
        self.tells(of_pieces((((0, "stop", 0),), ((0, 0),)), ins=1, names=1), [], ("worth", 6), handed=[6])
        self.tells(of_pieces((((0, "over", 1, 0, 1),), ((0, 0),)), ins=1, names=1), [], ("fault", "over"), handed=[6])


class TestCounts(Told):
    def test_no_rows(self):
        self.counts_are(of_pieces(((), END)), 0, 0)

    def test_all_done(self):
        self.counts_are(of_rows(*nums(1, 2), (0, "say", 10)), 3, 3)

    def test_rows_not_done(self):
        rows = ((0, "test", 1, 2, 0), (1, "say", 0), (1, "say", 0), (2, "say", 0), (7, "say", 0), (7, "test", 5, 6, 0))
        self.counts_are(of_rows(*rows, ins=1, names=1), 6, 3, handed=[4])
        self.counts_are(of_rows(*rows, ins=1, names=1), 6, 2, handed=[0])

    def test_one_that_stops(self):
        rows = ((0, "say", 0), (0, "test", 1, 2, 0), (1, "stop", 0), (0, "say", 0), (0, "say", 0))
        self.counts_are(of_rows(*rows, ins=1, names=1), 3, 3, handed=[1])
        self.counts_are(of_rows(*rows, ins=1, names=1), 5, 4, handed=[0])
        self.counts_are(of_rows((0, "stop", 0)), 1, 1)

    def test_one_that_fails(self):
        for bad in ((0, "over", 5, 0, 1), (0, "rest", 5, 0, 1), (0, "get", 5, 0), (0, "put", 0, 1)):
            rows = ((0, "say", 0), (9, "say", 0), bad, (0, "say", 0))
            self.counts_are(of_rows(*rows, ins=1, names=1), 3, 2, handed=[16])

    def test_too_long(self):
        tested = of_pieces((((0, "say", 0), (1, "say", 0)), ((0, 1),)), (((0, "say", 0),), ((0, 0),)))
        for fuel in (0, 1, 2, 10):
            self.counts_are(tested, 3 * fuel + 3, 2 * fuel + 2, fuel=fuel)

    def test_over_several_pieces(self):
        self.counts_are(counting(0, 2, 0), 13, 13, handed=[3, 77], fuel=2)
        self.counts_are(counting(0, 2, 0), 8, 8, handed=[3, 77], fuel=1)

    def test_pieces_that_nobody_goes_to(self):
        self.counts_are(of_pieces((((0, "say", 0),), ((0, 2),)), (((0, "say", 0),) * 9, END), (((0, "say", 0),), END)),
                        2, 2)


class TestRefusals(unittest.TestCase):
    """What is handed in first is refused first; by counts, too."""

    BAD = (1, 1, (None,))
    GOOD = of_rows((0, "over", 5, 5, 5), ins=1, names=1)

    def refused(self, error, *handed_in):
        for told in (run_rows, counts):
            self.assertRaises(error, told, *handed_in)

    def test_tested_first(self):
        for handed in ([], [10007], [0]):
            for fuel in (-1, 1001, None, 0):
                self.refused(BadTested, self.BAD, handed, fuel)

    def test_handed_next(self):
        for handed in ([], [0, 0], [-1], [10007], [True], [None], ["0"], [[]]):
            for fuel in (-1, 1001, None, True, 0):
                self.refused(BadHanded, self.GOOD, handed, fuel)

    def test_fuel_last(self):
        for fuel in (-1, 1001, 10 ** 30, None, True, False, "1", (), []):
            self.refused(BadFuel, self.GOOD, [0], fuel)

    def test_as_many_as_ins_not_as_names(self):
        for ins in range(4):
            tested = of_rows(ins=ins, names=50)
            for many in range(6):
                if many == ins:
                    self.assertEqual(run_rows(tested, [10006] * many, 1000), ([], WORTH_0, NO_CELLS))
                else:
                    self.refused(BadHanded, tested, [0] * many, 0)


class TestNothingIsChanged(unittest.TestCase):
    TESTED = of_pieces((((0, "num", 0, 5), (0, "say", 0), (0, "say", 1), (0, "put", 0, 1), (0, "test", 1, 2, 3)),
                        ((0, 0),)), ins=2, names=3)
    TOLD = ([5, 9, 5, 9], ("long",), cells_with({5: 9}))

    def test_what_is_handed_in(self):
        tested = copy.deepcopy(self.TESTED)
        handed = [8, 9]
        for told in (run_rows, counts):
            told(tested, handed, 1)
            self.assertEqual(handed, [8, 9])
        self.assertEqual(tested, self.TESTED)

    def test_three_names_that_are_all_handed_in(self):
        handed = [8, 9, 10]
        run_rows((3, 3, self.TESTED[2]), handed, 1)
        self.assertEqual(handed, [8, 9, 10])

    def test_lists_that_are_told_may_be_changed(self):
        handed = [8, 9]
        first = run_rows(self.TESTED, handed, 1)
        self.assertEqual(first, self.TOLD)
        first[0].append(1)
        first[0][0] = 99
        first[2].clear()
        self.assertEqual(run_rows(self.TESTED, handed, 1), self.TOLD)
        self.assertEqual(counts(self.TESTED, handed, 1), (10, 10))

    def test_asked_again(self):
        first = counts(self.TESTED, [8, 9], 1)
        self.assertEqual(run_rows(self.TESTED, [8, 9], 1), self.TOLD)
        run_rows(self.TESTED, [1, 2], 7)
        self.assertRaises(BadFuel, run_rows, self.TESTED, [8, 9], 1001)
        self.assertEqual(counts(self.TESTED, [8, 9], 1), first)
        self.assertEqual(run_rows(self.TESTED, [8, 9], 1), self.TOLD)


def row_text(row):
    """Python rows of the same meaning."""
    test, word, *numbers = row
    names = [f"r{number}" for number in numbers]
    if word == "test":
        p, q, a = numbers
        return [f"was = t{test}", "many[0] += 1", "many[1] += was",
                f"t{p}, t{q} = (was and r{a} != 0), (was and r{a} == 0)"]
    does = {"put": "cell, worth = {}, {}; cells[cell] = worth", "say": "said.append({})",
            "stop": "return ('worth', {})"}.get(word)
    if word == "num":
        names[1] = str(numbers[1])
    does = does.format(*names) if does else f"{names[0]} = " + SIGNS.get(word, "{}").format(*names[1:])
    return ["many[0] += 1", f"if t{test}: many[1] += 1; {does}"]


def python_rows(tested, handed, fuel):
    """(what run_rows must tell, what counts must tell)."""
    rows = [f"r{at} = {worth}" for at, worth in enumerate(handed + [0] * (5 - len(handed)))] + ["at = 0", "while True:"]
    for at, (held, goes) in enumerate(tested[2]):
        rows += [f" if at == {at}:", "  t0 = True; t1 = t2 = t3 = t4 = False"]
        rows += ["  " + text for row in held for text in row_text(row)]
        rows += ["  to = " + "".join([f"{piece} if t{test} else " for test, piece in goes]) + "None"]
        rows += ["  if to == -1: return ('worth', 0)", "  if to <= at:", "   if fuel == 0: return ('long',)",
                 "   fuel -= 1", "  at = to", "  continue"]
    held = {}
    exec("\n".join(["def told(fuel, said, cells, many):"] + [" " + row for row in rows]), held)
    said, cells, many = [], [0] * 16, [0, 0]
    try:
        end = held["told"](fuel, said, cells, many)
    except ZeroDivisionError:
        end = ("fault", "over")
    except IndexError:
        end = ("fault", "cell")
    return ((said, end, cells), tuple(many))


class TestAgainstPython(unittest.TestCase):
    def test_made_tested_programs(self):
        made = MadeRows(6)
        ends = []
        for _ in range(3000):
            tested = made.tested()
            handed = [made.chance.choice((0, 1, 2, 15, 16, 10006)) for _ in range(tested[0])]
            fuel = made.chance.choice((0, 1, 2, 5, 30))
            told, many = python_rows(tested, handed, fuel)
            self.assertEqual(run_rows(tested, handed, fuel), told, tested)
            self.assertEqual(counts(tested, handed, fuel), many, tested)
            ends.append(told[1][:1] if told[1][0] != "fault" else told[1])
        for end in (("worth",), ("long",), ("fault", "over"), ("fault", "cell")):
            self.assertGreater(ends.count(end), 50)


if __name__ == "__main__":
    unittest.main()
