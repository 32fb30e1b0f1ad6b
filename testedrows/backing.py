"""Tested rows turned back to branches."""

from testedrows.errors import TooMany
from testedrows.programs import MOST_NAMES
from testedrows.rows import check_one_piece, made_by, read_by, written_by

MOST_ROWS_BACK = 30


def back(tested):
    """Tell a program that does what a tested program of one piece does."""
    check_one_piece(tested)
    ins, names, pieces = tested
    rows = pieces[0][0]
    if len(rows) > MOST_ROWS_BACK:
        raise TooMany("more than 30 rows")
    naming = names_for(rows, names)
    if len(naming) > MOST_NAMES:
        raise TooMany("more than 99 registers and tests")
    body = []
    for row in rows:
        body += deeds_for(row, naming)
    return (ins, len(naming), tuple(body))


def names_for(rows, names):
    """A name for each register, the names' own ones first, and for each test but 0, which always holds."""
    naming = {("held", name): name for name in range(names)}
    for row in rows:
        for number in written_by(row) + read_by(row):
            naming.setdefault(("held", number), len(naming))
        for test in [row[0]] + made_by(row):
            if test != 0:
                naming.setdefault(("test", test), len(naming))
    return naming


def deeds_for(row, naming):
    if row[1] == "test":
        return deeds_for_tests(row, naming)
    deed = deed_for(row, naming)
    if row[0] == 0:
        return [deed]
    return [("if", part_of_test(row[0], naming), (deed,), ())]


def deed_for(row, naming):
    word = row[1]
    if word == "num":
        return ("set", naming[("held", row[2])], ("num", row[3]))
    parts = tuple([part_of_held(read, naming) for read in read_by(row)])
    if word in ("put", "say", "stop"):
        return (word,) + parts
    if word == "copy":
        return ("set", naming[("held", row[2])], parts[0])
    return ("set", naming[("held", row[2])], (word,) + parts)


def deeds_for_tests(row, naming):
    """Two deeds: a test's name holds 0 behind them if the test doesn't hold."""
    own, p, q = row[0], row[2], row[3]
    worth = part_of_held(row[4], naming)
    p_deed = ("set", naming[("test", p)], if_holding(own, worth, naming))
    q_deed = ("set", naming[("test", q)], if_holding(own, ("not", worth), naming))
    # The row's own test is read as it was looked at, so it is made last.
    if own == p:
        return [q_deed, p_deed]
    return [p_deed, q_deed]


def if_holding(test, part, naming):
    """A part that isn't 0 just if the test holds and the part isn't 0."""
    if test == 0:
        return part
    return ("and", part_of_test(test, naming), part)


def part_of_held(number, naming):
    return ("name", naming[("held", number)])


def part_of_test(test, naming):
    return ("name", naming[("test", test)])
