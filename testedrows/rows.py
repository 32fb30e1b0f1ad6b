"""What a tested program is, what is refused as none, and what its rows write, read and make."""

from testedrows.errors import BadTested, NotOne
from testedrows.programs import MOST_INS, MOST_NAMES
from testedrows.worths import is_within, is_worth

REGISTERS = 2000
TESTS = 2000
MOST_PIECES = 999
MOST_ROWS = 1500
MOST_GOES = 8

# Behind each word: what stands in its places.
PLACES = {
    "num": ("written", "worth"),
    "copy": ("written", "read"),
    "not": ("written", "read"),
    "get": ("written", "read"),
    "add": ("written", "read", "read"),
    "take": ("written", "read", "read"),
    "times": ("written", "read", "read"),
    "over": ("written", "read", "read"),
    "rest": ("written", "read", "read"),
    "less": ("written", "read", "read"),
    "same": ("written", "read", "read"),
    "put": ("read", "read"),
    "say": ("read",),
    "stop": ("read",),
    "test": ("made", "made", "read"),
}
# Words that can neither fail nor show, but for what they write.
QUIET = ("num", "copy", "add", "take", "times", "less", "same", "not")


def check_tested(tested):
    """Refuse what is no tested program."""
    if not is_framed(tested):
        raise BadTested(-1, -1)
    pieces = tested[2]
    for at, piece in enumerate(pieces):
        check_piece(at, piece, len(pieces))


def is_framed(tested):
    """Whether all can be but for the pieces, each by itself."""
    if not isinstance(tested, tuple) or len(tested) != 3:
        return False
    ins, names, pieces = tested
    if not is_within(ins, 0, MOST_INS) or not is_within(names, ins, MOST_NAMES):
        return False
    return isinstance(pieces, tuple) and 1 <= len(pieces) <= MOST_PIECES


def check_piece(at, piece, pieces):
    """Refuse a piece that can't be; at is its number, pieces how many there are."""
    if not isinstance(piece, tuple) or len(piece) != 2 or not isinstance(piece[0], tuple):
        raise BadTested(at, -1)
    rows, goes = piece
    if len(rows) > MOST_ROWS:
        raise BadTested(at, -1)
    for place, row in enumerate(rows):
        if not is_row(row):
            raise BadTested(at, place)
    if not are_goes(goes, pieces):
        raise BadTested(at, len(rows))


def is_row(row):
    # Only a text may be looked up: a list in the word's place can't be a key.
    if not isinstance(row, tuple) or len(row) < 2 or not isinstance(row[1], str):
        return False
    places = PLACES.get(row[1])
    if places is None or len(row) != len(places) + 2 or not is_test(row[0]):
        return False
    for place, number in zip(places, row[2:]):
        if not may_stand(place, number):
            return False
    return row[1] != "test" or row[2] != row[3]


def may_stand(place, number):
    if place == "worth":
        return is_worth(number)
    if place == "made":
        # Test 0 always holds, so no row makes it.
        return is_within(number, 1, TESTS - 1)
    return is_within(number, 0, REGISTERS - 1)


def is_test(value):
    return is_within(value, 0, TESTS - 1)


def are_goes(goes, pieces):
    if not isinstance(goes, tuple) or not 1 <= len(goes) <= MOST_GOES:
        return False
    for go in goes:
        if not is_go(go, pieces):
            return False
    # One of them must hold whatever the rows have made.
    return goes[-1][0] == 0


def is_go(go, pieces):
    if not isinstance(go, tuple) or len(go) != 2:
        return False
    test, piece = go
    return is_test(test) and is_within(piece, -1, pieces - 1)


def check_one_piece(tested):
    """Refuse what is no tested program, and one that isn't a single piece all of whose goes are -1."""
    check_tested(tested)
    pieces = tested[2]
    if len(pieces) != 1 or any([piece != -1 for test, piece in pieces[0][1]]):
        raise NotOne("not one piece that goes to the end alone")


def is_quiet(row):
    return row[1] in QUIET


def written_by(row):
    """The register that a row writes, in a list, or none."""
    return numbers_at("written", row)


def read_by(row):
    return numbers_at("read", row)


def made_by(row):
    """The tests that a row makes, p ahead of q, or none."""
    return numbers_at("made", row)


def numbers_at(place, row):
    """What stands in those places of a row that are of one kind."""
    return [number for kind, number in zip(PLACES[row[1]], row[2:]) if kind == place]


def lone_makers(rows):
    """Of a piece, by each test that one row alone makes: that row's number."""
    makers = {}
    for at, row in enumerate(rows):
        for test in made_by(row):
            makers.setdefault(test, []).append(at)
    return {test: numbers[0] for test, numbers in makers.items() if len(numbers) == 1}


def lineage(test, rows, makers):
    """A test and all those from which it comes, as keys; makers is what lone_makers tells of the rows."""
    met = {}
    # A test may come from itself, over one row or over several.
    while test not in met:
        met[test] = True
        if test in makers:
            test = rows[makers[test]][0]
    return met
