"""Points [1] and [13] to [15]: which rows hang ahead of which, which beats fit, and the fewest of them."""

import copy
import itertools
import unittest

from made import Made, MadeRows, comes_from, reads, writes
from testedrows.errors import BadBeats, BadHanded, BadTested, BadWidth, NotOne, TooMany
from testedrows.machine import run_rows
from testedrows.packing import fits, packed, run_beats
from testedrows.turning import turned

END = ((0, -1),)
TEST = (0, "test", 1, 2, 0)
NO_CELLS = [0] * 16
QUIET = ("num", "copy", "add", "take", "times", "less", "same", "not")
# Rows that show, each under test 0, and those that don't.
SHOWN = ((0, "over", 50, 0, 0), (0, "rest", 51, 0, 0), (0, "get", 52, 0), (0, "put", 0, 0), (0, "say", 0),
         (0, "stop", 0))
UNSHOWN = ((0, "num", 60, 5), (0, "copy", 61, 0), (0, "not", 62, 0), (0, "add", 63, 0, 0), (0, "take", 64, 0, 0),
           (0, "times", 65, 0, 0), (0, "less", 66, 0, 0), (0, "same", 67, 0, 0), (0, "test", 101, 102, 0))


def of_rows(*rows, ins=1, names=1, goes=END):
    return (ins, names, ((tuple(rows), goes),))


def under(test, row):
    return (test,) + row[1:]


def makes(row):
    return row[2:4] if row[1] == "test" else ()


def excluded(one, other, rows):
    """By point [13], over all rows and both ways round."""
    pairs, alone = comes_from(rows)
    ones = {one} | {test for from_it, test in pairs if from_it == one}
    others = {other} | {test for from_it, test in pairs if from_it == other}
    for row in rows:
        for p, q in (makes(row), makes(row)[::-1]) if makes(row) else ():
            if p in alone and q in alone and p in ones and q in others:
                return True
    return False


def hanging(rows):
    """All (former, latter) of which the former hangs ahead of the latter, by point [13]."""
    pairs = []
    for former, latter in itertools.combinations(range(len(rows)), 2):
        one, other = rows[former], rows[latter]
        tests = other[0] in makes(one) or set(makes(one)) & set(makes(other)) or one[0] in makes(other)
        held = set(writes(one)) & set(reads(other) + writes(other)) or set(reads(one)) & set(writes(other))
        loud = not [row for row in (one, other) if row[1] in QUIET or row[1] == "test"]
        if tests or ((held or loud) and not excluded(one[0], other[0], rows)):
            pairs.append((former, latter))
    return pairs


def fit(rows, width, beats):
    """By point [14], for a list of lists of numbers."""
    if sorted([row for beat in beats for row in beat]) != list(range(len(rows))):
        return False
    if not all([1 <= len(beat) <= width and beat == sorted(set(beat)) for beat in beats]):
        return False
    placed = {row: at for at, beat in enumerate(beats) for row in beat}
    return all([placed[former] < placed[latter] for former, latter in hanging(rows)])


def beats_by(placed):
    return [[row for row, at in enumerate(placed) if at == beat] for beat in range(max(placed, default=-1) + 1)]


def best(rows, width):
    """By trying all lists of the rows' beats, from the fewest beats on, the least lists first."""
    for many in range(len(rows) + 1):
        for placed in itertools.product(range(many), repeat=len(rows)):
            beats = beats_by(placed)
            if len(beats) == many and fit(rows, width, beats):
                return beats
    return None


def in_turn(many):
    return [[at] for at in range(many)]


class Packing(unittest.TestCase):
    def hangs(self, *rows, former=0, latter=1):
        """Whether the former can't stand in one beat with, nor behind, the latter, which it can ahead of it."""
        tested = of_rows(*rows)
        told = {fits(tested, 4, beats) for beats in self.with_both(rows, former, latter)}
        self.assertEqual(len(told), 1, rows)
        return not told.pop()

    def with_both(self, rows, former, latter):
        """Beats that fit but for the two rows, which stand in one, or in turn, but the latter first."""
        pairs = [pair for pair in hanging(rows) if pair != (former, latter)]
        found = []
        for together in (True, False):
            for order in itertools.permutations(range(len(rows))):
                if order.index(former) != order.index(latter) + 1:
                    continue
                beats = [[row] for row in order]
                if together:
                    beats[order.index(latter)] = [former, latter]
                    beats.remove([former])
                placed = {row: at for at, beat in enumerate(beats) for row in beat}
                if all([placed[one] < placed[other] for one, other in pairs]):
                    found.append(beats)
                    break
        self.assertEqual(len(found), 2, (rows, former, latter))
        return found

    def do_hang(self, *rows, **more):
        self.assertTrue(self.hangs(*rows, **more), rows)

    def do_not_hang(self, *rows, **more):
        self.assertFalse(self.hangs(*rows, **more), rows)


class TestHanging(Packing):
    def test_rows_of_nothing_in_common(self):
        for one, other in itertools.permutations(UNSHOWN, 2):
            self.do_not_hang(one, other)
            self.do_not_hang(under(5, one), under(5, other))
            self.do_not_hang(under(5, one), under(6, other))
        for one, other in itertools.product(SHOWN, UNSHOWN):
            self.do_not_hang(one, other)
            self.do_not_hang(other, one)

    def test_rows_none_of_which_is_quiet_nor_a_test(self):
        for one, other in itertools.product(SHOWN, repeat=2):
            for test, other_test in ((0, 0), (0, 5), (5, 0), (5, 5), (5, 6)):
                self.do_hang(under(test, one), under(other_test, other))

    def test_writes_what_the_latter_reads(self):
        for row in ((0, "copy", 6, 5), (0, "not", 6, 5), (0, "add", 6, 5, 0), (0, "add", 6, 0, 5), (0, "get", 6, 5),
                    (0, "put", 5, 0), (0, "put", 0, 5), (0, "say", 5), (0, "stop", 5), (0, "test", 1, 2, 5)):
            for writer in ((0, "num", 5, 7), (0, "copy", 5, 0), (7, "num", 5, 7)):
                self.do_hang(writer, row)
                self.do_hang(writer, under(8, row))

    def test_reads_what_the_latter_writes(self):
        for row in ((0, "copy", 6, 5), (0, "not", 6, 5), (0, "add", 6, 5, 0), (0, "add", 6, 0, 5), (0, "get", 6, 5),
                    (0, "put", 5, 0), (0, "put", 0, 5), (0, "say", 5), (0, "stop", 5), (0, "test", 1, 2, 5)):
            for writer in ((0, "num", 5, 7), (0, "copy", 5, 0), (7, "num", 5, 7)):
                self.do_hang(row, writer)
                self.do_hang(under(8, row), writer)

    def test_writes_what_the_latter_writes(self):
        for one, other in itertools.product(((0, "num", 5, 7), (0, "copy", 5, 0), (0, "get", 5, 0)), repeat=2):
            self.do_hang(one, other)
            self.do_hang(under(3, one), other)
            self.do_hang(under(3, one), under(4, other))

    def test_both_read_the_same(self):
        self.do_not_hang((0, "copy", 5, 0), (0, "copy", 6, 0))
        self.do_not_hang((0, "say", 0), (0, "copy", 6, 0))
        self.do_not_hang((0, "test", 1, 2, 0), (0, "test", 3, 4, 0))

    def test_a_number_is_no_register(self):
        self.do_not_hang((0, "num", 5, 6), (0, "num", 6, 5))
        self.do_not_hang((0, "num", 5, 6), (0, "copy", 6, 0))

    def test_makes_the_latter_s_test(self):
        for test in (1, 2):
            for row in SHOWN + UNSHOWN:
                self.do_hang(TEST, under(test, row))
        self.do_not_hang(TEST, (3, "say", 0))

    def test_the_latter_makes_its_test(self):
        for test in (1, 2):
            for row in SHOWN + UNSHOWN:
                self.do_hang(under(test, row), TEST)
        self.do_not_hang((3, "say", 0), TEST)

    def test_makes_one_that_the_latter_makes(self):
        for tests in ((1, 2), (2, 1), (1, 3), (3, 1), (2, 3), (3, 2)):
            self.do_hang(TEST, (0, "test", *tests, 0))
        self.do_not_hang(TEST, (0, "test", 3, 4, 0))

    def test_tests_and_registers_of_the_same_number(self):
        self.do_not_hang((0, "test", 5, 6, 0), (0, "num", 5, 6))
        self.do_not_hang((5, "num", 7, 6), (7, "num", 5, 6))


class TestExcluding(Packing):
    """The tests of the two rows in question exclude one another, or don't."""

    def pair_excludes(self, makers, one, other):
        """By rows behind the makers which show, write the same, or read what the other one writes."""
        both = [self.hangs_behind(makers, rows) for rows in (
            ((one, "say", 0), (other, "put", 0, 0)), ((other, "say", 0), (one, "stop", 0)),
            ((one, "num", 50, 1), (other, "num", 50, 2)), ((other, "num", 50, 1), (one, "copy", 51, 50)),
            ((one, "copy", 51, 50), (other, "num", 50, 2)), ((one, "test", 70, 71, 50), (other, "num", 50, 2)))]
        self.assertEqual(len(set(both)), 1, (makers, one, other))
        return not both[0]

    def hangs_behind(self, makers, rows):
        many = len(makers)
        return self.hangs(*makers, *rows, former=many, latter=many + 1)

    def do_exclude(self, makers, one, other):
        self.assertTrue(self.pair_excludes(makers, one, other), (makers, one, other))
        self.assertTrue(self.pair_excludes(makers, other, one), (makers, other, one))

    def do_not_exclude(self, makers, one, other):
        self.assertFalse(self.pair_excludes(makers, one, other), (makers, one, other))
        self.assertFalse(self.pair_excludes(makers, other, one), (makers, other, one))

    def test_the_two_of_one_row(self):
        self.do_exclude((TEST,), 1, 2)
        self.do_exclude(((0, "test", 2, 1, 0),), 1, 2)
        self.do_exclude(((9, "test", 1, 2, 0),), 1, 2)

    def test_one_with_itself(self):
        for test in (0, 1, 2, 9):
            self.do_not_exclude((TEST,), test, test)

    def test_with_test_0_and_with_one_never_made(self):
        for test in (1, 2):
            self.do_not_exclude((TEST,), 0, test)
            self.do_not_exclude((TEST,), 9, test)
        self.do_not_exclude((), 1, 2)

    def test_of_unlike_rows(self):
        for one, other in itertools.product((1, 2), (3, 4)):
            self.do_not_exclude((TEST, (0, "test", 3, 4, 0)), one, other)

    def test_over_one_from_which_it_comes(self):
        makers = (TEST, (1, "test", 3, 4, 0))
        for test in (3, 4):
            self.do_exclude(makers, 2, test)
            self.do_not_exclude(makers, 1, test)
        self.do_exclude(makers, 3, 4)

    def test_over_both(self):
        makers = (TEST, (1, "test", 3, 4, 0), (2, "test", 5, 6, 0))
        for one, other in itertools.product((1, 3, 4), (2, 5, 6)):
            self.do_exclude(makers, one, other)

    def test_over_several(self):
        makers = (TEST, (1, "test", 3, 4, 0), (3, "test", 5, 6, 0), (6, "test", 7, 8, 0))
        for one, other in itertools.product((2,), (3, 4, 5, 6, 7, 8)):
            self.do_exclude(makers, one, other)
        for one, other in ((4, 7), (5, 8), (4, 5)):
            self.do_exclude(makers, one, other)
        for one, other in ((3, 7), (6, 8), (1, 8)):
            self.do_not_exclude(makers, one, other)

    def test_made_by_more_than_one_row(self):
        for again in (TEST, (0, "test", 1, 3, 0), (0, "test", 3, 2, 0), (9, "test", 3, 1, 0)):
            self.do_not_exclude((TEST, again), 1, 2)
            self.do_not_exclude((again, TEST), 1, 2)
        self.do_not_exclude((TEST, (1, "test", 3, 4, 0), (0, "test", 1, 9, 0)), 2, 3)
        self.do_not_exclude((TEST, (1, "test", 3, 4, 0), (0, "test", 2, 9, 0)), 2, 3)
        self.do_exclude((TEST, (1, "test", 3, 4, 0), (0, "test", 4, 9, 0)), 2, 3)
        self.do_not_exclude((TEST, (1, "test", 3, 4, 0), (0, "test", 3, 9, 0)), 2, 3)

    def test_one_in_the_midst_made_by_more_than_one(self):
        makers = (TEST, (1, "test", 3, 4, 0), (3, "test", 5, 6, 0), (1, "test", 3, 9, 0))
        self.do_not_exclude(makers, 2, 5)
        self.do_exclude(makers, 5, 6)
        self.do_exclude(makers, 2, 4)
        self.do_exclude(makers, 2, 9)

    def test_from_itself(self):
        # 1 comes from itself, and 2 from it, so 2 excludes itself.
        makers = ((1, "test", 1, 2, 0),)
        self.do_exclude(makers, 1, 2)
        self.do_exclude(makers, 2, 2)
        self.do_not_exclude(makers, 1, 1)
        # What comes from both of a row's tests excludes itself, too.
        self.do_exclude(((2, "test", 1, 2, 0), (1, "test", 3, 4, 0)), 3, 3)

    def test_makers_behind(self):
        rows = ((1, "num", 50, 1), (2, "num", 50, 2), TEST)
        self.do_not_hang(*rows)

    def test_tests_tie_whether_they_exclude_or_not(self):
        makers = (TEST,)
        self.assertTrue(self.hangs_behind(makers, ((1, "test", 5, 6, 0), (2, "test", 5, 7, 0))))
        self.assertFalse(self.hangs_behind(makers, ((1, "test", 5, 6, 0), (2, "test", 7, 8, 0))))
        self.do_hang(TEST, (1, "test", 3, 2, 0), (2, "say", 0), former=1, latter=2)

    def test_a_test_of_another_piece_s_rows_is_none(self):
        self.assertRaises(NotOne, fits, (0, 0, (((TEST,), END), ((), END))), 1, [[0]])


class TestFits(unittest.TestCase):
    ROWS = ((0, "num", 5, 7), (0, "num", 6, 8), (0, "num", 7, 9), (0, "num", 8, 1), (0, "num", 9, 2))

    def tells(self, told, beats, width=2, rows=ROWS):
        self.assertIs(fits(of_rows(*rows), width, beats), told, (beats, width))
        if told:
            self.assertEqual(run_beats(of_rows(*rows), width, beats, [3]), run_rows(of_rows(*rows), [3], 0))
        else:
            self.assertRaises(BadBeats, run_beats, of_rows(*rows), width, beats, [3])

    def test_plainly(self):
        self.tells(True, [[0], [1], [2], [3], [4]])
        self.tells(True, [[0, 1], [2, 3], [4]])
        self.tells(True, [[2, 4], [1], [0, 3]])
        self.tells(True, [[4], [3], [2], [1], [0]])

    def test_widths(self):
        wide = [[], [[0], [1], [2], [3], [4]], [[0, 1], [2, 3], [4]], [[0, 1, 2], [3, 4]], [[0, 1, 2, 3], [4]],
                [[0, 1, 2, 3, 4]]]
        for width in (1, 2, 3, 4):
            for many in range(1, 6):
                self.tells(many <= width, wide[many], width)

    def test_empty_beats(self):
        for beats in ([[0, 1], [], [2, 3], [4]], [[], [0, 1], [2, 3], [4]], [[0, 1], [2, 3], [4], []], [[]], []):
            self.tells(False, beats)

    def test_beats_that_do_not_rise(self):
        self.tells(False, [[1, 0], [2, 3], [4]])
        self.tells(False, [[0, 1], [2, 3, 4], []], 3)
        self.tells(False, [[0, 2, 1], [3, 4]], 3)
        self.tells(True, [[0, 2, 3], [1, 4]], 3)

    def test_a_row_twice(self):
        self.tells(False, [[0, 0], [1, 2], [3, 4]])
        self.tells(False, [[0, 1], [2, 3], [0, 4]])
        self.tells(False, [[0, 1], [2, 3], [4], [4]])
        same = [0]
        self.tells(False, [same, same, [1, 2], [3, 4]])

    def test_a_row_left_out(self):
        for row in range(5):
            self.tells(False, [[other] for other in range(5) if other != row])

    def test_a_row_that_there_is_not(self):
        for row in (5, 6, -1, -5, 10 ** 30):
            self.tells(False, [[0, 1], [2, 3], [4], [row]])
            self.tells(False, [[0, 1], [2, 3], [row]])
            self.tells(False, [[0, 1], [2, 3], sorted([4, row])])

    def test_other_things_in_a_row_s_place(self):
        for row in (True, False, None, "", "0", "4", (), (0,), (4,), [], [0], [4], [[4]]):
            self.tells(False, [[0, 1], [2, 3], [row]])
            self.tells(False, [[0, 1], [2, 3], [4, row]])
            self.tells(False, [[row, 1], [2, 3], [4]])
            self.tells(False, [[0, 1], [2, 3], [4], [row]])
        self.tells(False, [[False, True], [2, 3], [4]])
        self.tells(False, [[True]], rows=self.ROWS[:1])
        self.tells(False, [[False]], rows=self.ROWS[:1])
        self.tells(False, [[False], [True]], rows=self.ROWS[:2])
        self.tells(True, [[0], [1]], rows=self.ROWS[:2])

    def test_other_things_in_a_beat_s_place(self):
        for beat in (True, False, None, 0, 4, "", "4", (), (4,), [[4]]):
            self.tells(False, [[0, 1], [2, 3], beat])
            self.tells(False, [[0, 1], [2, 3], [4], beat])
            self.tells(False, [beat, [0, 1], [2, 3], [4]])
        self.tells(False, [(0, 1), (2, 3), (4,)])
        self.tells(False, [0, 1, 2, 3, 4])
        self.tells(False, [[[0, 1], [2, 3], [4]]])
        self.tells(False, ([0, 1], [2, 3], [4]))

    def test_no_rows(self):
        for width in (1, 2, 3, 4):
            self.tells(True, [], width, rows=())
            for beats in ([[]], [[0]], [None], [[], []]):
                self.tells(False, beats, width, rows=())

    def test_each_row_behind_those_that_hang_ahead(self):
        rows = ((0, "num", 5, 7), (0, "copy", 6, 5), (0, "num", 7, 9), (0, "add", 8, 6, 7), (0, "say", 8))
        for beats in ([[0, 2], [1], [3], [4]], [[2], [0], [1], [3], [4]], [[0], [1, 2], [3], [4]]):
            self.tells(True, beats, rows=rows)
        for beats in ([[0, 1], [2], [3], [4]], [[1], [0], [2], [3], [4]], [[0], [1], [2, 3], [4]],
                      [[0, 2], [1], [3, 4]], [[0, 2], [1], [4], [3]], [[0], [1], [3], [2], [4]]):
            self.tells(False, beats, rows=rows)

    def test_many_rows(self):
        rows = tuple([(0, "num", at, 1) for at in range(1, 1501)])
        self.assertIs(fits(of_rows(*rows), 1, in_turn(1500)), True)
        self.assertIs(fits(of_rows(*rows), 4, [[at, at + 1, at + 2, at + 3] for at in range(0, 1500, 4)]), True)
        self.assertIs(fits(of_rows(*rows), 4, [[at, at + 375, at + 750, at + 1125] for at in range(375)]), True)
        self.assertIs(fits(of_rows(*rows), 3, [[at, at + 375, at + 750, at + 1125] for at in range(375)]), False)
        says = rows[:100] + tuple([(0, "say", at) for at in range(1, 101)])
        self.assertIs(fits(of_rows(*says), 2, [[0]] + [[at, at + 99] for at in range(1, 100)] + [[199]]), True)
        self.assertIs(fits(of_rows(*says), 2, [[at, at + 100] for at in range(100)]), False)

    def test_more_registers_and_tests_than_back_takes(self):
        rows = tuple([(at, "num", 500 + at, 1) for at in range(200)])
        self.assertIs(fits(of_rows(*rows, names=99), 1, in_turn(200)), True)
        self.assertEqual(run_beats(of_rows(*rows, names=99), 1, in_turn(200), [0]), ([], ("worth", 0), NO_CELLS))
        self.assertEqual(packed(of_rows(TEST, (1, "say", 1999), names=99), 4), [[0], [1]])

    def test_goes(self):
        for goes in (END, ((1, -1), (0, -1)), ((0, -1),) * 8):
            self.assertIs(fits(of_rows(TEST, goes=goes), 1, [[0]]), True)
            self.assertEqual(packed(of_rows(TEST, goes=goes), 1), [[0]])
            self.assertEqual(run_beats(of_rows(TEST, goes=goes), 1, [[0]], [1]), ([], ("worth", 0), NO_CELLS))


class TestRunBeats(unittest.TestCase):
    def tells(self, rows, beats, width=4, handed=(0, 1, 5, 16, 10006)):
        """Tell the ends, by what is handed in."""
        ends = []
        for number in handed:
            told = run_beats(of_rows(*rows), width, beats, [number])
            self.assertEqual(told, run_rows(of_rows(*rows), [number], 0), (rows, beats, number))
            self.assertEqual([type(kind) for kind in told], [list, tuple, list])
            ends.append(told[1])
        return ends

    def test_plainly(self):
        rows = (TEST, (1, "num", 5, 7), (2, "num", 5, 8), (0, "say", 5), (0, "put", 5, 0), (0, "stop", 5))
        beats = [[0], [1, 2], [3], [4], [5]]
        self.tells(rows, beats)
        cells = [0] * 7 + [4] + [0] * 8
        self.assertEqual(run_beats(of_rows(*rows), 2, beats, [4]), ([7], ("worth", 7), cells))
        self.assertEqual(run_beats(of_rows(*rows), 2, beats, [0]), ([8], ("worth", 8), NO_CELLS))

    def test_no_rows(self):
        self.assertEqual(run_beats(of_rows(), 1, [], [5]), ([], ("worth", 0), NO_CELLS))
        self.assertEqual(run_beats((0, 0, (((), END),)), 4, [], []), ([], ("worth", 0), NO_CELLS))

    def test_faults_and_stops_in_the_midst_of_a_beat(self):
        for row, end in (((1, "over", 50, 5, 6), ("fault", "over")), ((1, "rest", 50, 5, 6), ("fault", "over")),
                         ((1, "get", 50, 7), ("fault", "cell")), ((1, "put", 7, 7), ("fault", "cell")),
                         ((1, "stop", 7), ("worth", 16))):
            rows = (TEST, (0, "num", 7, 16), (0, "say", 0), (0, "num", 8, 3), row, (2, "say", 7), (0, "copy", 9, 7),
                    (0, "put", 0, 0))
            for beats in ([[0, 1], [2, 3], [4, 5, 6], [7]], [[0, 1], [2], [3, 4, 5, 6], [7]],
                          [[0, 1, 3], [2, 6], [4, 5], [7]], [[1], [0], [2], [5], [4], [3], [7], [6]]):
                ends = self.tells(rows, beats)
                self.assertEqual(ends, [("worth", 0)] + [end] * 4)

    def test_tests_are_looked_at_ahead(self):
        # The latter row of the beat bears a test that excludes the former's, and is read as it was.
        rows = (TEST, (1, "num", 0, 0), (2, "add", 0, 0, 0), (0, "test", 3, 4, 0), (3, "say", 0), (4, "num", 6, 9),
                (0, "say", 6))
        self.tells(rows, [[0], [1, 2], [3], [4, 5], [6]])

    def test_what_is_read_is_as_it_was(self):
        # Under tests that exclude one another the former writes what the latter reads.
        rows = (TEST, (1, "num", 5, 7), (2, "copy", 6, 5), (2, "num", 7, 3), (1, "copy", 8, 7), (0, "say", 5),
                (0, "say", 6), (0, "say", 7), (0, "say", 8))
        self.tells(rows, [[0], [1, 2, 3, 4], [5], [6], [7], [8]])
        self.tells(rows, [[0], [2, 4], [1, 3], [5], [6], [7], [8]])

    def test_ins(self):
        rows = ((0, "add", 5, 0, 1), (0, "add", 6, 1, 2), (0, "say", 5), (0, "say", 6))
        for ins, handed in ((0, []), (1, [4]), (2, [4, 9]), (3, [4, 9, 10006])):
            tested = of_rows(*rows, ins=ins, names=3)
            self.assertEqual(run_beats(tested, 2, [[0, 1], [2], [3]], handed), run_rows(tested, handed, 0))

    def test_bad_handed(self):
        for handed in ([], [0, 0], [10007], [-1], [True], [None], ["0"], [[0]], [(0,)]):
            self.assertRaises(BadHanded, run_beats, of_rows(TEST), 1, [[0]], handed)

    def test_nothing_is_changed(self):
        rows = (TEST, (1, "num", 0, 7), (2, "num", 0, 8), (0, "say", 0), (0, "put", 0, 0))
        tested, beats, handed = of_rows(*rows), [[0], [1, 2], [3], [4]], [3]
        first = run_beats(tested, 2, beats, handed)
        wanted = copy.deepcopy(first)
        self.assertTrue(fits(tested, 2, beats))
        first[0].append(9)
        first[2][0] = 8
        self.assertEqual((tested, beats, handed), (of_rows(*rows), [[0], [1, 2], [3], [4]], [3]))
        self.assertEqual(run_beats(tested, 2, beats, handed), wanted)
        self.assertEqual(fits(tested, 2, beats), True)
        bad = [[1, 0], [True, None], [], ["a"], [[2]]]
        held = copy.deepcopy(bad)
        self.assertIs(fits(tested, 2, bad), False)
        self.assertRaises(BadBeats, run_beats, tested, 2, bad, handed)
        self.assertEqual(bad, held)


class TestPacked(unittest.TestCase):
    NUMS = tuple([(0, "num", 5 + at, at) for at in range(9)])

    def test_no_rows(self):
        for width in (1, 2, 3, 4):
            self.assertEqual(packed(of_rows(), width), [])

    def test_rows_of_nothing_in_common(self):
        for many in range(10):
            for width in (1, 2, 3, 4):
                beats = [list(range(at, min(at + width, many))) for at in range(0, many, width)]
                self.assertEqual(packed(of_rows(*self.NUMS[:many]), width), beats)

    def test_rows_in_one_chain(self):
        rows = [(0, "say", at) for at in range(9)]
        for width in (1, 2, 3, 4):
            self.assertEqual(packed(of_rows(*rows), width), in_turn(9))

    def test_both_sides_of_a_branch(self):
        rows = (TEST, (1, "num", 5, 7), (1, "say", 5), (2, "num", 5, 8), (2, "put", 5, 5))
        self.assertEqual(packed(of_rows(*rows), 1), in_turn(5))
        self.assertEqual(packed(of_rows(*rows), 2), [[0], [1, 3], [2, 4]])
        self.assertEqual(packed(of_rows(*rows), 4), [[0], [1, 3], [2, 4]])

    def test_a_later_row_that_must_be_early(self):
        # To put the rows in as early as can be, in turn, would need one beat more.
        rows = self.NUMS[:2] + ((0, "num", 20, 1), (0, "copy", 21, 20), (0, "say", 21))
        self.assertEqual(packed(of_rows(*rows), 2), [[0, 2], [1, 3], [4]])
        rows = self.NUMS[:3] + ((0, "num", 20, 1), (0, "copy", 21, 20), (0, "say", 21))
        self.assertEqual(packed(of_rows(*rows), 2), [[0, 3], [1, 4], [2, 5]])
        self.assertEqual(packed(of_rows(*rows), 3), [[0, 1, 3], [2, 4], [5]])

    def test_nine_rows_and_ten(self):
        for rows in ([(0, "say", 0)] * 9, list(self.NUMS), [TEST] * 9):
            for width in (1, 2, 3, 4):
                self.assertTrue(fits(of_rows(*rows), width, packed(of_rows(*rows), width)))
                for more in (1, 2, 21, 22, 1491):
                    self.assertRaises(TooMany, packed, of_rows(*rows, *[(0, "say", 0)] * more), width)

    def test_widths(self):
        for width in (0, 5, -1, 100, True, False, None, "1", "", (), (1,), [], [1]):
            self.assertRaises(BadWidth, packed, of_rows(), width)
            self.assertRaises(BadWidth, fits, of_rows(), width, [])
            self.assertRaises(BadWidth, run_beats, of_rows(), width, [], [0])

    def test_lists_that_are_told_may_be_changed(self):
        tested = of_rows(*self.NUMS)
        first = packed(tested, 4)
        wanted = copy.deepcopy(first)
        first[0].append(77)
        first[1].clear()
        first.pop()
        self.assertEqual(packed(tested, 4), wanted)
        self.assertEqual(tested, of_rows(*self.NUMS))

    def test_kinds(self):
        beats = packed(of_rows(TEST, *self.NUMS[:5]), 3)
        self.assertIs(type(beats), list)
        self.assertEqual({type(beat) for beat in beats}, {list})
        self.assertEqual({type(row) for beat in beats for row in beat}, {int})


class TestOrder(unittest.TestCase):
    """Which refusal comes of two and more wrong things at once."""

    BAD = of_rows(None)
    TWO = (1, 1, (((TEST,) * 10, END), ((), END)))
    LONG = of_rows(*[TEST] * 10)

    def test_bad_tested_first(self):
        for width in (0, 1, None):
            self.assertRaises(BadTested, packed, self.BAD, width)
            self.assertRaises(BadTested, fits, self.BAD, width, [None])
            self.assertRaises(BadTested, run_beats, self.BAD, width, [None], [])
        for told in (lambda tested: packed(tested, 0), lambda tested: fits(tested, 0, []),
                     lambda tested: run_beats(tested, 0, [None], [])):
            self.assertRaises(BadTested, told, (1, 1, (((TEST,), END), ((None,), END))))

    def test_not_one_next(self):
        for tested in (self.TWO, of_rows(*[TEST] * 10, goes=((0, 0),)), of_rows(goes=((1, 0), (0, -1)))):
            for width in (0, 1, None):
                self.assertRaises(NotOne, packed, tested, width)
                self.assertRaises(NotOne, fits, tested, width, [None])
                self.assertRaises(NotOne, run_beats, tested, width, [None], [])
                self.assertRaises(NotOne, run_beats, tested, width, [], [0])

    def test_width_next(self):
        for width in (0, 5, True, None):
            self.assertRaises(BadWidth, packed, self.LONG, width)
            self.assertRaises(BadWidth, fits, self.LONG, width, [None])
            self.assertRaises(BadWidth, fits, self.LONG, width, in_turn(10))
            self.assertRaises(BadWidth, run_beats, self.LONG, width, [None], [])

    def test_too_many_and_bad_beats_next(self):
        self.assertRaises(TooMany, packed, self.LONG, 1)
        self.assertIs(fits(self.LONG, 1, [None]), False)
        for handed in ([], [0], [True], [10007]):
            self.assertRaises(BadBeats, run_beats, self.LONG, 1, [None], handed)

    def test_handed_last(self):
        self.assertRaises(BadHanded, run_beats, self.LONG, 1, in_turn(10), [])
        faulty = of_rows((0, "over", 5, 6, 6))
        self.assertRaises(BadHanded, run_beats, faulty, 1, [[0]], [10007])
        self.assertEqual(run_beats(faulty, 1, [[0]], [1])[1], ("fault", "over"))


class TestMade(unittest.TestCase):
    def some_beats(self, rows, width, chance):
        """Beats, most of which fit."""
        pairs = hanging(rows)
        placed, beats = [], []
        while len(placed) < len(rows):
            ready = [row for row in range(len(rows)) if row not in placed
                     and not [1 for one, other in pairs if other == row and one not in placed]]
            beat = sorted(chance.sample(ready, chance.randint(1, min(width, len(ready)))))
            placed += beat
            beats.append(beat)
        if chance.random() < 0.4 and len(beats) > 1:
            one, other = chance.sample(range(len(beats)), 2)
            beats[one], beats[other] = beats[other], beats[one]
        return beats

    def test_fits_and_run_beats(self):
        told = []
        for seed, registers, tests, most in ((1, 5, 5, 9), (2, 9, 3, 14), (3, 12, 9, 20), (4, 20, 4, 6)):
            made = MadeRows(seed, registers, tests)
            for _ in range(350):
                tested = made.one_piece(most)
                rows = tested[2][0][0]
                width = made.chance.randint(1, 4)
                beats = self.some_beats(rows, width, made.chance)
                told.append(fit(rows, width, beats))
                self.assertIs(fits(tested, width, beats), told[-1], (rows, beats))
                handed = made.handed(tested[0])
                if told[-1]:
                    self.assertEqual(run_beats(tested, width, beats, handed), run_rows(tested, handed, 0))
                else:
                    self.assertRaises(BadBeats, run_beats, tested, width, beats, handed)
        self.assertGreater(told.count(True), 500)
        self.assertGreater(told.count(False), 100)

    def test_all_beats_of_small_pieces(self):
        for seed, registers, tests in ((5, 4, 3), (6, 8, 4), (7, 8, 5)):
            made = MadeRows(seed, registers, tests)
            for _ in range(40):
                rows = tuple([made.row() for _ in range(4)])
                for placed in itertools.product(range(4), repeat=4):
                    beats = beats_by(placed)
                    for width in (1, 2, 4):
                        self.assertIs(fits(of_rows(*rows), width, beats), fit(rows, width, beats), (rows, beats))

    def test_packed_against_trying_all(self):
        shorter = 0
        for seed, registers, tests in ((8, 4, 3), (9, 10, 4), (10, 14, 6)):
            made = MadeRows(seed, registers, tests)
            for _ in range(40):
                tested = made.one_piece(5)
                rows = tested[2][0][0]
                for width in (1, 2, 3, 4):
                    beats = packed(tested, width)
                    self.assertEqual(beats, best(rows, width), rows)
                    shorter += len(beats) < len(rows)
        self.assertGreater(shorter, 100)

    def test_packed_of_as_many_as_nine(self):
        for seed, registers, tests in ((11, 5, 3), (12, 10, 5), (13, 20, 6)):
            made = MadeRows(seed, registers, tests)
            for _ in range(60):
                rows = tuple([made.row() for _ in range(made.chance.randint(6, 9))])
                for width in (1, 2, 3, 4):
                    beats = packed(of_rows(*rows), width)
                    self.assertTrue(fit(rows, width, beats))
                    self.assertEqual(len(beats), self.fewest(rows, width))
                    for number in (0, 16):
                        self.assertEqual(run_beats(of_rows(*rows), width, beats, [number]),
                                         run_rows(of_rows(*rows), [number], 0))

    def fewest(self, rows, width):
        """How many beats there must be, by going on from all sets of rows that may be done."""
        pairs = hanging(rows)
        reached, many = {frozenset()}, 0
        while frozenset(range(len(rows))) not in reached:
            further = set()
            for done in reached:
                ready = [row for row in range(len(rows)) if row not in done
                         and all([one in done for one, other in pairs if other == row])]
                size = min(width, len(ready))
                further |= {done | set(beat) for beat in itertools.combinations(ready, size)}
            reached, many = further, many + 1
        return many

    def test_made_programs(self):
        made = Made(3)
        many = 0
        for _ in range(600):
            ins = made.chance.randrange(4)
            tested = turned((ins, 4, made.body(2)))
            rows = tested[2][0][0]
            if len(tested[2]) == 1 and len(rows) <= 9:
                many += 1
                for width in (1, 2, 3, 4):
                    beats = packed(tested, width)
                    handed = [made.chance.choice((0, 1, 16)) for _ in range(ins)]
                    self.assertEqual(run_beats(tested, width, beats, handed), run_rows(tested, handed, 0))
        self.assertGreater(many, 100)


if __name__ == "__main__":
    unittest.main()
