"""Rows packed in beats."""

from testedrows.errors import BadBeats, BadWidth, TooMany
from testedrows.machine import begin_piece, look_at, made_machine
from testedrows.rows import check_one_piece, is_quiet, lineage, lone_makers, made_by, read_by, written_by
from testedrows.worths import end_of, is_within

MOST_WIDTH = 4
MOST_PACKED = 9


class Tied:
    """What a row is tied to others by."""

    def __init__(self, row):
        self.test = row[0]
        self.made = made_by(row)
        self.written = written_by(row)
        self.read = read_by(row)
        self.shows = not is_quiet(row) and row[1] != "test"


class Hanging:
    """A piece's rows, of which each hangs ahead of some of those behind it."""

    def __init__(self, rows):
        self.rows = rows
        self.makers = lone_makers(rows)
        self.tied = [Tied(row) for row in rows]


def fits(tested, width, beats):
    """Whether the beats fit the tested program and the width."""
    rows = checked_rows(tested, width)
    return do_fit(rows, width, beats)


def packed(tested, width):
    """Tell the fewest beats that fit, the least of them by the rows' beats."""
    rows = checked_rows(tested, width)
    if len(rows) > MOST_PACKED:
        raise TooMany("more than nine rows")
    ahead = those_ahead(Hanging(rows))
    # In fewer beats than this there is no room for as many rows.
    many = (len(rows) + width - 1) // width
    placed = least_placed([], many, ahead, width)
    while placed is None:
        many += 1
        placed = least_placed([], many, ahead, width)
    return [[row for row, beat in enumerate(placed) if beat == at] for at in range(many)]


def run_beats(tested, width, beats, handed):
    """Tell (said, end, cells) of a tested program that is run beat by beat."""
    rows = checked_rows(tested, width)
    if not do_fit(rows, width, beats):
        raise BadBeats("beats that don't fit")
    # There is no fuel to be handed in, for one piece that goes to the end alone has no rounds.
    machine = made_machine(tested, handed, 0)
    end = end_of(do_beats, [[rows[at] for at in beat] for beat in beats], machine)
    return (machine.said, end, machine.cells)


def checked_rows(tested, width):
    """The rows of a tested program of one piece, unless it or the width is refused."""
    check_one_piece(tested)
    if not is_within(width, 1, MOST_WIDTH):
        raise BadWidth("no number from 1 to 4")
    return tested[2][0][0]


def do_beats(beats, machine):
    begin_piece(machine)
    for beat in beats:
        # As they are ahead of the beat. Cells need no such care: of rows that get or put one alone is done in a beat.
        holding = dict(machine.holding)
        registers = list(machine.registers)
        for row in beat:
            look_at(row, holding, registers, machine)


def do_fit(rows, width, beats):
    placed = placed_by(beats, width, len(rows))
    if placed is None:
        return False
    hanging = Hanging(rows)
    for latter in range(len(rows)):
        for former in range(latter):
            if placed[former] >= placed[latter] and hangs(former, latter, hanging):
                return False
    return True


def placed_by(beats, width, many):
    """The beat of each of so many rows, by the rows' numbers; None if they aren't beats in which each stands once."""
    if not isinstance(beats, list):
        return None
    placed = {}
    for at, beat in enumerate(beats):
        if not is_beat(beat, width, many):
            return None
        for row in beat:
            if row in placed:
                return None
            placed[row] = at
    return placed if len(placed) == many else None


def is_beat(beat, width, many):
    if not isinstance(beat, list) or not 1 <= len(beat) <= width:
        return False
    for row in beat:
        if not is_within(row, 0, many - 1):
            return False
    return all([former < latter for former, latter in zip(beat, beat[1:])])


def those_ahead(hanging):
    """By each row's number: the numbers of the rows that hang ahead of it."""
    many = len(hanging.rows)
    return [[former for former in range(latter) if hangs(former, latter, hanging)] for latter in range(many)]


def hangs(former, latter, hanging):
    """Whether a row hangs ahead of another one behind it, both told by their numbers."""
    one = hanging.tied[former]
    other = hanging.tied[latter]
    if are_tied_by_tests(one, other):
        return True
    if not (one.shows and other.shows) and not are_tied_by_registers(one, other):
        return False
    return not exclude(one.test, other.test, hanging)


def are_tied_by_tests(one, other):
    return other.test in one.made or one.test in other.made or share(one.made, other.made)


def are_tied_by_registers(one, other):
    return share(one.written, other.read) or share(one.written, other.written) or share(one.read, other.written)


def share(ones, others):
    for one in ones:
        if one in others:
            return True
    return False


def exclude(one, other, hanging):
    """Whether of two tests, which may be the same, one at the most holds."""
    others = lineage(other, hanging.rows, hanging.makers)
    for test in lineage(one, hanging.rows, hanging.makers):
        if counterpart(test, hanging) in others:
            return True
    return False


def counterpart(test, hanging):
    """The test that is made beside a test, if no other row makes one of the two; else None."""
    makers = hanging.makers
    if test not in makers:
        return None
    p, q = made_by(hanging.rows[makers[test]])
    beside = q if test == p else p
    return beside if beside in makers else None


def least_placed(placed, many, ahead, width):
    """The least list of the rows' beats that begins with those placed, in so many beats; None if there is none."""
    at = len(placed)
    if at == len(ahead):
        return placed
    # All that hang ahead of a row have lower numbers, so they are placed already.
    earliest = max([placed[former] + 1 for former in ahead[at]], default=0)
    for beat in range(earliest, many):
        if placed.count(beat) < width:
            found = least_placed(placed + [beat], many, ahead, width)
            if found is not None:
                return found
    return None
