"""What a tested program is, and what is refused as none."""

from testedrows.errors import BadTested
from testedrows.programs import MOST_INS, MOST_NAMES
from testedrows.worths import is_within, is_worth

REGISTERS = 2000
TESTS = 2000
MOST_PIECES = 999
MOST_ROWS = 1500
MOST_GOES = 8

# Behind each word: what stands in its places.
PLACES = {
    "num": ("written", "worth"),
    "copy": ("written", "read"),
    "not": ("written", "read"),
    "get": ("written", "read"),
    "add": ("written", "read", "read"),
    "take": ("written", "read", "read"),
    "times": ("written", "read", "read"),
    "over": ("written", "read", "read"),
    "rest": ("written", "read", "read"),
    "less": ("written", "read", "read"),
    "same": ("written", "read", "read"),
    "put": ("read", "read"),
    "say": ("read",),
    "stop": ("read",),
    "test": ("made", "made", "read"),
}


def check_tested(tested):
    """Refuse what is no tested program."""
    if not is_framed(tested):
        raise BadTested(-1, -1)
    pieces = tested[2]
    for at, piece in enumerate(pieces):
        check_piece(at, piece, len(pieces))


def is_framed(tested):
    """Whether all can be but for the pieces, each by itself."""
    if not isinstance(tested, tuple) or len(tested) != 3:
        return False
    ins, names, pieces = tested
    if not is_within(ins, 0, MOST_INS) or not is_within(names, ins, MOST_NAMES):
        return False
    return isinstance(pieces, tuple) and 1 <= len(pieces) <= MOST_PIECES


def check_piece(at, piece, pieces):
    """Refuse a piece that can't be; at is its number, pieces how many there are."""
    if not isinstance(piece, tuple) or len(piece) != 2 or not isinstance(piece[0], tuple):
        raise BadTested(at, -1)
    rows, goes = piece
    if len(rows) > MOST_ROWS:
        raise BadTested(at, -1)
    for place, row in enumerate(rows):
        if not is_row(row):
            raise BadTested(at, place)
    if not are_goes(goes, pieces):
        raise BadTested(at, len(rows))


def is_row(row):
    # Only a text may be looked up: a list in the word's place can't be a key.
    if not isinstance(row, tuple) or len(row) < 2 or not isinstance(row[1], str):
        return False
    places = PLACES.get(row[1])
    if places is None or len(row) != len(places) + 2 or not is_test(row[0]):
        return False
    for place, number in zip(places, row[2:]):
        if not may_stand(place, number):
            return False
    return row[1] != "test" or row[2] != row[3]


def may_stand(place, number):
    if place == "worth":
        return is_worth(number)
    if place == "made":
        # Test 0 always holds, so no row makes it.
        return is_within(number, 1, TESTS - 1)
    return is_within(number, 0, REGISTERS - 1)


def is_test(value):
    return is_within(value, 0, TESTS - 1)


def are_goes(goes, pieces):
    if not isinstance(goes, tuple) or not 1 <= len(goes) <= MOST_GOES:
        return False
    for go in goes:
        if not is_go(go, pieces):
            return False
    # One of them must hold whatever the rows have made.
    return goes[-1][0] == 0


def is_go(go, pieces):
    if not isinstance(go, tuple) or len(go) != 2:
        return False
    test, piece = go
    return is_test(test) and is_within(piece, -1, pieces - 1)
