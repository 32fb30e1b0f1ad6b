"""Points [1], [10] and [11]: rows that bear 0 behind bared, rows that lean leaves out, and that nothing shows of it."""

import copy
import itertools
import unittest

from made import Made, MadeRows, comes_from, reads, writes
from testedrows.baring import bared, lean
from testedrows.errors import BadTested
from testedrows.machine import counts, run_rows
from testedrows.rows import check_tested
from testedrows.turning import turned

END = ((0, -1),)
# Register 0 is the name, test 1 or test 2 holds, row 1 is the one in question, row 2 reads what it writes.
TEST = (0, "test", 1, 2, 0)
ROW = (1, "num", 5, 7)
READER = (1, "say", 5)
QUIET = {"num": (1, "num", 5, 7), "copy": (1, "copy", 5, 0), "not": (1, "not", 5, 0), "add": (1, "add", 5, 0, 0),
         "take": (1, "take", 5, 0, 0), "times": (1, "times", 5, 0, 0), "less": (1, "less", 5, 0, 0),
         "same": (1, "same", 5, 0, 0)}
# Those that fail do so for what stands in the name.
LOUD = {"over": (1, "over", 5, 0, 0), "rest": (1, "rest", 5, 0, 0), "get": (1, "get", 5, 0)}
SHOWN = ((1, "put", 5, 5), (1, "say", 5), (1, "stop", 5))


def of_pieces(*pieces, ins=1, names=1):
    return (ins, names, tuple([(tuple(rows), goes) for rows, goes in pieces]))


def of_rows(*rows, ins=1, names=1):
    return of_pieces((rows, END), ins=ins, names=names)


def under(test, row):
    return (test,) + row[1:]


def all_rows(pieces):
    return [(piece, at, row) for piece, (rows, _) in enumerate(pieces) for at, row in enumerate(rows)]


def must_be_bared(tested):
    """All (piece, row) that bear 0, by trying each condition of point [10] in turn."""
    _, names, pieces = tested
    bare = []
    for piece, at, row in all_rows(pieces):
        pairs, alone = comes_from(pieces[piece][0])
        if row[1] not in QUIET or row[2] < names:
            continue
        if [1 for _, _, other in all_rows(pieces) if row[2] in writes(other)] != [1]:
            continue
        if row[0] not in alone or alone[row[0]] >= at:
            continue
        readers = [(there, place, other[0]) for there, place, other in all_rows(pieces) if row[2] in reads(other)]
        if all(there == piece and place > at and (test == row[0] or (test, row[0]) in pairs)
               for there, place, test in readers):
            bare.append((piece, at))
    return bare


def must_be_left(pieces):
    """The rows of each piece, by taking out all at once, again and again."""
    kept = [list(rows) for rows, _ in pieces]
    while True:
        read = {number for rows in kept for row in rows for number in reads(row)}
        left = []
        for rows, (_, goes) in zip(kept, pieces):
            borne = {row[0] for row in rows} | {test for test, _ in goes}
            left.append([row for row in rows if not (row[1] in QUIET and row[2] not in read)
                         and not (row[1] == "test" and row[2] not in borne and row[3] not in borne)])
        if left == kept:
            return left
        kept = left


class Bared(unittest.TestCase):
    def bared_at(self, tested):
        """The places of the rows that bared changed, all else being as it was."""
        told = bared(tested)
        check_tested(told)
        self.assertEqual(told[:2], tested[:2])
        self.assertEqual(len(told[2]), len(tested[2]))
        changed = []
        for at, ((rows, goes), (bare, other_goes)) in enumerate(zip(tested[2], told[2])):
            self.assertEqual((len(rows), goes), (len(bare), other_goes))
            for place, (row, other) in enumerate(zip(rows, bare)):
                if row != other:
                    self.assertEqual(other, (0,) + row[1:])
                    changed.append((at, place))
        self.assertEqual(bared(told), told)
        return changed

    def is_bared(self, *rows, at=1, **more):
        tested = of_rows(*rows, **more)
        self.assertIn((0, at), self.bared_at(tested), tested)
        self.does_the_same(tested)

    def is_kept(self, *rows, at=1, **more):
        tested = of_rows(*rows, **more)
        self.assertNotIn((0, at), self.bared_at(tested), tested)
        self.does_the_same(tested)

    def piece_is_kept(self, tested, piece, at):
        self.assertNotIn((piece, at), self.bared_at(tested), tested)

    def does_the_same(self, tested, fuel=3):
        told = bared(tested)
        for handed in itertools.product((0, 1, 16), repeat=tested[0]):
            first = run_rows(tested, list(handed), fuel)
            self.assertEqual(run_rows(told, list(handed), fuel), first, tested)
            looked, done = counts(tested, list(handed), fuel)
            looked_bare, done_bare = counts(told, list(handed), fuel)
            self.assertEqual(looked_bare, looked)
            self.assertGreaterEqual(done_bare, done)


class TestBared(Bared):
    def test_plainly(self):
        tested = of_rows(TEST, ROW, READER)
        self.assertEqual(bared(tested), of_rows(TEST, (0, "num", 5, 7), READER))
        self.assertEqual(counts(tested, [0], 0), (3, 1))
        self.assertEqual(counts(bared(tested), [0], 0), (3, 2))
        self.assertEqual(counts(bared(tested), [1], 0), counts(tested, [1], 0))

    def test_each_quiet_word(self):
        for row in QUIET.values():
            self.is_bared(TEST, row, READER)

    def test_rows_that_are_not_quiet(self):
        for row in LOUD.values():
            self.is_kept(TEST, row, READER)
            self.is_kept(TEST, row)
        for row in SHOWN:
            self.is_kept(TEST, row)
        self.is_kept(TEST, (1, "test", 3, 4, 0))
        self.is_kept(TEST, (1, "test", 3, 4, 0), (3, "say", 0))

    def test_under_either_test(self):
        self.is_bared(TEST, under(2, ROW), under(2, READER))
        self.is_kept(TEST, under(2, ROW), under(1, READER))

    def test_no_readers(self):
        for row in QUIET.values():
            self.is_bared(TEST, row)

    def test_a_register_that_is_a_name(self):
        self.is_bared(TEST, ROW, READER, names=5)
        self.is_kept(TEST, ROW, READER, names=6)
        self.is_kept(TEST, ROW, names=6)
        self.is_kept(TEST, (1, "num", 0, 7), (1, "say", 0))
        self.is_bared(TEST, ROW, READER, ins=0, names=0)
        self.is_bared((0, "test", 1, 2, 9), (1, "num", 0, 7), (1, "say", 0), ins=0, names=0)

    def test_written_by_another_row(self):
        others = [under(test, row) for test in (0, 1, 2, 3) for row in [*QUIET.values(), *LOUD.values()]]
        for other in others + [(1, "num", 5, 7)]:
            self.is_kept(TEST, ROW, other, READER)
            self.is_kept(TEST, ROW, READER, other)
            self.is_kept(TEST, other, ROW, READER, at=2)
            self.is_kept(other, TEST, ROW, READER, at=2)

    def test_written_in_another_piece(self):
        for other in ((0, "num", 5, 7), (1, "num", 5, 7), (9, "get", 5, 0)):
            for pieces in ((((TEST, ROW, READER), END), ((other,), END)),
                           (((TEST, ROW, READER), ((0, 1),)), ((TEST, other), END))):
                self.piece_is_kept(of_pieces(*pieces), 0, 1)
        self.piece_is_kept(of_pieces((((0, "num", 5, 7),), ((0, 1),)), ((TEST, ROW, READER), END)), 1, 1)

    def test_both_that_write_are_kept(self):
        self.assertEqual(self.bared_at(of_rows(TEST, ROW, READER, under(2, ROW), under(2, READER))), [])

    def test_a_test_that_two_rows_make(self):
        for other in (TEST, (0, "test", 1, 3, 0), (0, "test", 3, 1, 0), (9, "test", 3, 1, 0), (1, "test", 1, 3, 0)):
            self.is_kept(other, TEST, ROW, READER, at=2)
            self.is_kept(TEST, other, ROW, READER, at=2)
            self.is_kept(TEST, ROW, other, READER)
            self.is_kept(TEST, ROW, READER, other)
        self.is_bared(TEST, (0, "test", 3, 2, 0), ROW, READER, at=2)

    def test_a_test_that_no_row_makes(self):
        self.is_kept(TEST, under(3, ROW), under(3, READER))
        self.is_kept(under(3, ROW), at=0)
        self.piece_is_kept(of_pieces(((TEST,), ((0, 1),)), ((ROW, READER), END)), 1, 0)
        self.piece_is_kept(of_pieces(((ROW, READER), ((0, 1),)), ((TEST,), END)), 0, 0)

    def test_a_test_that_is_made_behind(self):
        self.is_kept(ROW, TEST, READER, at=0)
        self.is_kept(ROW, READER, TEST, at=0)
        self.is_kept(ROW, TEST, at=0)
        self.piece_is_kept(of_pieces(((TEST,), ((0, 1),)), ((ROW, READER, TEST), END)), 1, 0)

    def test_made_in_another_piece_too(self):
        tested = of_pieces(((TEST,), ((0, 1),)), ((TEST, ROW, READER), ((0, 2),)), ((TEST, TEST), END))
        self.assertEqual(self.bared_at(tested), [(1, 1)])

    def test_a_reader_ahead(self):
        self.is_kept(TEST, READER, ROW, at=2)
        self.is_kept(TEST, READER, ROW, READER, at=2)
        self.is_kept(READER, TEST, ROW, READER, at=2)

    def test_a_reader_ahead_in_a_round(self):
        tested = of_pieces(((TEST, READER, ROW), ((1, 0), (0, -1))))
        self.piece_is_kept(tested, 0, 2)
        self.does_the_same(tested)

    def test_a_row_that_reads_what_it_writes(self):
        for row in ((1, "copy", 5, 5), (1, "not", 5, 5), (1, "add", 5, 5, 0), (1, "add", 5, 0, 5),
                    (1, "same", 5, 5, 5)):
            self.is_kept(TEST, row, READER)
            self.is_kept(TEST, row)

    def test_a_number_is_no_register(self):
        self.is_bared(TEST, (1, "num", 5, 5), READER)
        self.is_bared(TEST, (1, "num", 7, 1), (0, "num", 9, 7), (1, "say", 7))

    def test_a_reader_in_another_piece(self):
        for reader in (READER, (0, "say", 5), (0, "test", 3, 4, 5)):
            self.piece_is_kept(of_pieces(((TEST, ROW, READER), END), ((reader,), END)), 0, 1)
            self.piece_is_kept(of_pieces(((TEST, ROW, READER), ((0, 1),)), ((TEST, reader), END)), 0, 1)
            self.piece_is_kept(of_pieces(((reader,), ((0, 1),)), ((TEST, ROW, READER), END)), 1, 1)

    def test_a_reader_under_another_test(self):
        for test in (0, 2, 3, 1999):
            self.is_kept(TEST, ROW, under(test, READER))
            self.is_kept(TEST, ROW, READER, under(test, READER))
            self.is_kept(TEST, ROW, under(test, READER), READER)
        self.is_kept(TEST, (0, "test", 3, 4, 0), ROW, under(3, READER), at=2)

    def test_readers_of_each_word(self):
        readers = [(1, "copy", 6, 5), (1, "not", 6, 5), (1, "get", 6, 5), (1, "put", 5, 0), (1, "put", 0, 5),
                   (1, "put", 5, 5), (1, "say", 5), (1, "stop", 5), (1, "test", 3, 4, 5)]
        for word in ("add", "take", "times", "over", "rest", "less", "same"):
            readers += [(1, word, 6, 5, 0), (1, word, 6, 0, 5), (1, word, 6, 5, 5)]
        for reader in readers:
            self.is_bared(TEST, ROW, reader)
            self.is_kept(TEST, ROW, under(0, reader))
            self.is_kept(TEST, ROW, under(2, reader))
            self.is_kept(TEST, reader, ROW, at=2)
            self.is_kept(TEST, ROW, READER, under(2, reader))

    def test_rows_that_are_bared_read_one_another(self):
        tested = of_rows(TEST, ROW, (1, "add", 6, 5, 5), (1, "less", 7, 6, 5), (1, "say", 7))
        self.assertEqual(self.bared_at(tested), [(0, 1), (0, 2), (0, 3)])
        self.does_the_same(tested)

    def test_a_reader_that_bears_0_already(self):
        self.assertEqual(self.bared_at(of_rows(TEST, ROW, (0, "copy", 6, 5), (1, "say", 6))), [])

    def test_rows_under_test_0_and_no_rows(self):
        for tested in (of_rows(), of_rows((0, "num", 5, 7), (0, "say", 5)), of_rows(TEST)):
            self.assertEqual(bared(tested), tested)

    def test_goes_do_not_matter(self):
        goes = ((1, 0), (2, -1), (1, -1), (0, -1))
        tested = of_pieces(((TEST, ROW, READER), goes))
        self.assertEqual(bared(tested), of_pieces(((TEST, under(0, ROW), READER), goes)))
        self.does_the_same(tested)

    def test_several_pieces(self):
        tested = of_pieces(((TEST, ROW, READER), ((1, 2), (0, 1))),
                           ((TEST, (2, "num", 6, 7), (2, "say", 6), (2, "num", 7, 8), (0, "say", 7)), ((0, 2),)),
                           ((TEST, (1, "num", 8, 9), (1, "copy", 9, 8)), ((2, 0), (0, -1))))
        self.assertEqual(self.bared_at(tested), [(0, 1), (1, 1), (2, 1), (2, 2)])
        self.does_the_same(tested)


class TestComesFrom(Bared):
    """Readers under a test that comes from the row's test."""

    ONE = (1, "test", 3, 4, 0)
    TWO = (4, "test", 5, 6, 0)
    THREE = (5, "test", 8, 7, 0)

    def test_over_one_row(self):
        for test in (3, 4):
            self.is_bared(TEST, ROW, self.ONE, under(test, READER))
            self.is_bared(TEST, self.ONE, ROW, under(test, READER), at=2)
            self.is_bared(TEST, ROW, self.ONE, under(test, READER), READER)

    def test_over_several(self):
        for test in (3, 4, 5, 6, 7, 8):
            self.is_bared(TEST, ROW, self.ONE, self.TWO, self.THREE, under(test, READER))
        for test in (5, 6, 7, 8):
            rows = (TEST, self.ONE, self.TWO, self.THREE, under(4, ROW), under(test, READER))
            self.is_bared(*rows, at=4)

    def test_not_the_other_way_round(self):
        for test in (0, 1, 2, 3):
            self.is_kept(TEST, self.ONE, under(4, ROW), under(test, READER), at=2)

    def test_from_the_other_one_of_the_two(self):
        for test in (3, 4):
            self.is_kept(TEST, under(2, ROW), self.ONE, under(test, READER))
            self.is_kept(TEST, ROW, under(2, self.ONE), under(test, READER))
            self.is_kept(TEST, ROW, under(0, self.ONE), under(test, READER))

    def test_the_borne_one_is_made_twice(self):
        for other in (self.ONE, (1, "test", 3, 9, 0), (1, "test", 9, 3, 0), (9, "test", 3, 10, 0)):
            self.is_kept(TEST, ROW, self.ONE, other, under(3, READER))
            self.is_kept(TEST, ROW, self.ONE, under(3, READER), other)
            self.is_kept(other, TEST, ROW, self.ONE, under(3, READER), at=2)
        self.is_bared(TEST, ROW, self.ONE, (0, "test", 3, 9, 0), under(4, READER))

    def test_one_in_the_midst_is_made_twice(self):
        for other in ((1, "test", 4, 9, 0), (0, "test", 9, 4, 0), (1, "test", 4, 5, 0)):
            self.is_kept(TEST, ROW, self.ONE, other, self.TWO, under(6, READER))
            self.is_kept(TEST, ROW, self.ONE, self.TWO, under(6, READER), other)
        self.is_bared(TEST, ROW, self.ONE, (0, "test", 3, 9, 0), self.TWO, under(6, READER))

    def test_one_ahead_of_the_row_s_own_is_made_twice(self):
        again = (0, "test", 1, 9, 0)
        rows = (TEST, again, self.ONE, under(4, ROW), self.TWO, under(6, READER))
        self.is_bared(*rows, at=3)

    def test_where_the_makers_stand_does_not_matter(self):
        self.is_bared(TEST, ROW, under(3, READER), self.ONE)
        self.is_bared(self.ONE, TEST, ROW, under(3, READER), at=2)
        self.is_bared(TEST, ROW, self.TWO, self.ONE, under(6, READER))

    def test_in_another_piece(self):
        for pieces in ((((TEST, ROW, under(3, READER)), ((0, 1),)), ((TEST, self.ONE), END)),
                       (((TEST, ROW, under(3, READER)), ((0, 1),)), ((self.ONE,), END))):
            self.piece_is_kept(of_pieces(*pieces), 0, 1)
        tested = of_pieces(((TEST, ROW, self.ONE, under(3, READER)), ((0, 1),)), ((TEST, self.ONE, self.ONE), END))
        self.assertEqual(self.bared_at(tested), [(0, 1)])

    def test_from_itself(self):
        self.is_bared((1, "test", 1, 2, 0), ROW, READER)
        self.is_bared((1, "test", 1, 2, 0), ROW, under(2, READER))
        self.is_kept((1, "test", 1, 2, 0), under(2, ROW), READER)

    def test_from_one_another(self):
        ring = ((2, "test", 1, 3, 0), (1, "test", 2, 4, 0))
        for one, other in itertools.product((1, 2), repeat=2):
            self.is_bared(*ring, under(one, ROW), under(other, READER), at=2)
            self.is_kept(*ring, under(3, ROW), under(one, READER), at=2)
            self.is_bared(*ring, under(one, ROW), under(3, READER), at=2)


class TestLean(unittest.TestCase):
    def leaves(self, tested, *rows):
        """The rows of its only, or first, piece are those."""
        told = lean(tested)
        check_tested(told)
        ins, names, pieces = tested
        self.assertEqual(told, (ins, names, ((tuple(rows), pieces[0][1]),) + told[2][1:]))
        self.assertEqual([list(left) for left, _ in told[2]], must_be_left(pieces))
        self.assertEqual([goes for _, goes in told[2]], [goes for _, goes in pieces])
        self.assertEqual(lean(told), told)
        for handed in itertools.product((0, 1, 16), repeat=ins):
            self.assertEqual(run_rows(told, list(handed), 3), run_rows(tested, list(handed), 3))

    def keeps(self, *rows, **more):
        self.leaves(of_rows(*rows, **more), *rows)

    def test_no_rows(self):
        self.keeps()

    def test_quiet_rows_that_nobody_reads(self):
        for row in QUIET.values():
            for test in (0, 1, 2):
                self.leaves(of_rows(under(test, row), (0, "say", 0)), (0, "say", 0))
                self.keeps(under(test, row), (0, "say", 5))

    def test_names_too(self):
        needed = ((0, "num", 1, 8), (0, "say", 1))
        self.leaves(of_rows((0, "num", 0, 7), *needed, names=2), *needed)

    def test_readers_ahead_and_under_any_test(self):
        self.keeps((0, "say", 5), (0, "num", 5, 7))
        self.keeps((9, "say", 5), (0, "num", 5, 7))

    def test_all_that_write_what_is_read(self):
        self.keeps((0, "num", 5, 7), (0, "num", 5, 8), (0, "say", 5), (0, "num", 5, 9))

    def test_read_in_another_piece(self):
        for rows in (((0, "say", 5),), ((9, "put", 0, 5),), ((3, "test", 1, 2, 5), (1, "say", 0))):
            tested = of_pieces((((0, "num", 5, 7),), END), (rows, END))
            self.leaves(tested, (0, "num", 5, 7))
        tested = of_pieces((((0, "num", 5, 7),), END), (((0, "copy", 6, 5),), END))
        self.leaves(tested)

    def test_a_row_that_reads_what_it_writes(self):
        for row in ((0, "copy", 5, 5), (1, "not", 5, 5), (0, "add", 5, 5, 0), (0, "add", 5, 0, 5)):
            self.keeps(row)
        self.leaves(of_rows((0, "add", 5, 0, 0)))
        self.leaves(of_rows((0, "num", 5, 5)))

    def test_rows_that_read_one_another(self):
        self.keeps((0, "copy", 5, 6), (0, "copy", 6, 5))
        self.leaves(of_rows((0, "copy", 5, 6), (0, "copy", 6, 5), (0, "copy", 7, 6)),
                    (0, "copy", 5, 6), (0, "copy", 6, 5))

    def test_rows_that_are_not_quiet_stay(self):
        for row in (*LOUD.values(), *SHOWN):
            for test in (0, 1, 9):
                self.keeps(under(test, row))
        self.keeps((0, "num", 5, 0), (0, "over", 6, 5, 5))

    def test_needed_by_rows_left_out(self):
        self.leaves(of_rows((0, "num", 5, 7), (0, "copy", 6, 5), (0, "add", 7, 6, 5), (0, "say", 0)), (0, "say", 0))

    def test_tests_that_nobody_bears(self):
        self.leaves(of_rows(TEST))
        self.leaves(of_rows(TEST, (3, "say", 0)), (3, "say", 0))
        self.leaves(of_rows(TEST, (0, "say", 0)), (0, "say", 0))

    def test_a_test_that_a_row_bears(self):
        self.keeps(TEST, (1, "say", 0))
        self.keeps(TEST, (2, "say", 0))
        self.keeps((2, "say", 0), TEST)
        self.keeps(TEST, TEST, (0, "test", 2, 3, 0), (2, "say", 0))

    def test_a_test_that_a_go_bears(self):
        for goes in (((1, -1), (0, -1)), ((0, -1), (2, -1), (0, -1)), ((2, 0), (0, -1))):
            self.leaves(of_pieces(((TEST,), goes)), TEST)
        self.leaves(of_pieces(((TEST,), ((3, -1), (0, -1)))))

    def test_a_test_that_the_row_itself_bears(self):
        self.keeps((1, "test", 1, 2, 0))
        self.keeps((2, "test", 1, 2, 0))
        self.leaves(of_rows((3, "test", 1, 2, 0)))

    def test_borne_in_another_piece_only(self):
        self.leaves(of_pieces(((TEST,), ((0, 1),)), (((1, "say", 0),), ((1, -1), (0, -1)))))
        self.leaves(of_pieces(((TEST,), ((0, 1),)), ((TEST, (2, "say", 0)), ((1, -1), (0, -1)))))

    def test_tests_that_bear_one_another(self):
        self.keeps((1, "test", 3, 4, 0), (3, "test", 1, 2, 0))
        self.leaves(of_rows(TEST, (1, "test", 3, 4, 0), (4, "test", 5, 6, 0)))

    def test_a_test_that_is_borne_by_a_row_left_out(self):
        self.leaves(of_rows(TEST, ROW))
        self.leaves(of_rows((0, "num", 6, 1), (0, "test", 1, 2, 6), (1, "num", 7, 1), (1, "test", 3, 4, 7),
                            (4, "num", 8, 9), (0, "say", 0)), (0, "say", 0))

    def test_what_only_a_test_reads(self):
        self.leaves(of_rows((0, "num", 5, 7), (0, "test", 1, 2, 5)))
        self.keeps((0, "num", 5, 7), (0, "test", 1, 2, 5), (2, "say", 0))

    def test_chains_of_many_rows(self):
        for many in (2, 10, 600):
            copies = [(0, "copy", at + 1, at) for at in range(many)]
            self.leaves(of_rows((0, "num", 0, 7), *copies, (0, "say", 0), names=1), (0, "num", 0, 7), (0, "say", 0))
            self.leaves(of_rows((0, "num", 0, 7), *reversed(copies)))
            self.keeps((0, "num", 0, 7), *copies, (0, "say", many))
            tests = [(at, "test", at + 1, 1900, 0) for at in range(many)]
            self.leaves(of_rows(*tests))
            self.keeps(*tests, (many, "say", 0))

    def test_a_chain_of_fifteen_hundred(self):
        copies = [(0, "copy", at + 1, at) for at in range(1499)]
        self.assertEqual(lean(of_rows((0, "num", 0, 7), *copies)), of_rows())
        tests = [(at, "test", at + 1, 1900, 0) for at in range(1500)]
        self.assertEqual(lean(of_rows(*tests)), of_rows())

    def test_a_chain_over_pieces(self):
        pieces = [(((0, "copy", at + 1, at),), ((0, at + 1),)) for at in range(300)] + [((), END)]
        told = lean(of_pieces(*pieces))
        self.assertEqual(told, of_pieces(*[((), goes) for _, goes in pieces]))


class TestMade(unittest.TestCase):
    def check(self, tested, made):
        told = bared(tested)
        bare = must_be_bared(tested)
        pieces = tuple([(tuple([(0,) + row[1:] if (piece, at) in bare else row for at, row in enumerate(rows)]), goes)
                        for piece, (rows, goes) in enumerate(tested[2])])
        self.assertEqual(told, tested[:2] + (pieces,))
        left = lean(tested)
        self.assertEqual([list(rows) for rows, _ in left[2]], must_be_left(tested[2]))
        for fuel in (0, 1, 9):
            handed = made.handed(tested[0])
            first = run_rows(tested, handed, fuel)
            for other in (told, left, lean(told), bared(left)):
                self.assertEqual(run_rows(other, handed, fuel), first, tested)
        return len(bare), sum([len(rows) for rows, _ in tested[2]]) - sum([len(rows) for rows, _ in left[2]])

    def test_made_rows(self):
        totals = [0, 0]
        for seed, registers, tests, most in ((1, 5, 5, 8), (2, 9, 3, 6), (3, 14, 8, 14), (4, 12, 4, 12)):
            made = MadeRows(seed, registers, tests)
            for _ in range(600):
                totals = [one + other for one, other in zip(totals, self.check(made.tested(most), made))]
        self.assertGreater(totals[0], 50)
        self.assertGreater(totals[1], 500)

    def test_made_programs(self):
        made = Made(17)
        rows = MadeRows(18)
        totals = [0, 0]
        for _ in range(250):
            ins = made.chance.randrange(4)
            tested = turned((ins, 4, made.body(3)))
            if sum([len(held) for held, _ in tested[2]]) < 60:
                totals = [one + other for one, other in zip(totals, self.check(tested, rows))]
        self.assertGreater(totals[0], 200)


class TestRefusals(unittest.TestCase):
    def test_what_is_no_tested_program(self):
        for tested, piece, row in ((None, -1, -1), ((), -1, -1), ([], -1, -1), ((4, 4, (((), END),)), -1, -1),
                                   ((True, 1, (((), END),)), -1, -1), ((0, 0, ()), -1, -1), ((0, 0, (None,)), 0, -1),
                                   (of_rows(TEST, None), 0, 1), (of_rows((0, "num", True, 1)), 0, 0),
                                   (of_rows((0, "test", 1, 1, 0)), 0, 0), (of_pieces(((TEST,), ())), 0, 1),
                                   (of_pieces(((), END), ((), ((0, 2),))), 1, 0)):
            for told in (bared, lean):
                with self.assertRaises(BadTested) as caught:
                    told(tested)
                self.assertEqual((caught.exception.piece, caught.exception.row), (piece, row))


class TestNothingIsChanged(unittest.TestCase):
    TESTED = of_pieces(((TEST, ROW, READER, (0, "num", 9, 9)), ((1, 1), (0, -1))), ((TEST,), ((0, 0),)))

    def test_what_is_handed_in_and_asked_again(self):
        for told in (bared, lean):
            tested = copy.deepcopy(self.TESTED)
            first = told(tested)
            self.assertNotEqual(first, self.TESTED)
            told(of_rows(ROW, READER))
            self.assertRaises(BadTested, told, None)
            self.assertEqual(told(tested), first)
            self.assertEqual(tested, self.TESTED)

    def test_tuples_alone(self):
        def all_tuples(held):
            self.assertIn(type(held), (tuple, int, str))
            if isinstance(held, tuple):
                for inner in held:
                    all_tuples(inner)

        all_tuples(bared(self.TESTED))
        all_tuples(lean(self.TESTED))


if __name__ == "__main__":
    unittest.main()
