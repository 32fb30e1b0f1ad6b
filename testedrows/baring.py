"""Tests dropped where nothing shows of a row that is done in vain, and rows left out that nobody needs."""

from testedrows.rows import check_tested, is_quiet, lineage, lone_makers, made_by, read_by, written_by


class Uses:
    """Of all pieces: how many rows write each register, and where those rows stand that read it, and under what."""

    def __init__(self, pieces):
        self.writers = {}
        self.readers = {}
        for piece, (rows, goes) in enumerate(pieces):
            for at, row in enumerate(rows):
                for written in written_by(row):
                    self.writers[written] = self.writers.get(written, 0) + 1
                for read in read_by(row):
                    self.readers.setdefault(read, []).append((piece, at, row[0]))


class Thinning:
    """The rows that are still there, by their places, and how many of them, and of the goes, need what.

    A place is a tuple of a piece's number and a row's. A need is what a row reads or bears: ("worth", a register), or
    ("test", a piece's number, a test). makers are the places of those rows that are there for a need alone.
    """

    def __init__(self, pieces):
        self.rows = {}
        self.needed = {}
        self.makers = {}
        for piece, (rows, goes) in enumerate(pieces):
            for at, row in enumerate(rows):
                self.rows[(piece, at)] = row
                self.add_needs(needs_of(row, piece))
                for need in met_by(row, piece):
                    self.makers.setdefault(need, []).append((piece, at))
            self.add_needs([("test", piece, test) for test, to in goes])

    def add_needs(self, needs):
        for need in needs:
            self.needed[need] = self.needed.get(need, 0) + 1


def bared(tested):
    """Tell a tested program whose rows bear 0 where nothing shows of it."""
    check_tested(tested)
    ins, names, pieces = tested
    uses = Uses(pieces)
    bare = [(bared_rows(piece, rows, names, uses), goes) for piece, (rows, goes) in enumerate(pieces)]
    return (ins, names, tuple(bare))


def bared_rows(piece, rows, names, uses):
    makers = lone_makers(rows)
    bare = []
    for at, row in enumerate(rows):
        if writes_alone(row, names, uses) and is_made_ahead(row[0], at, makers):
            readers = uses.readers.get(row[2], [])
            if all([is_under(reader, piece, at, rows, makers) for reader in readers]):
                row = (0,) + row[1:]
        bare.append(row)
    return tuple(bare)


def writes_alone(row, names, uses):
    """Whether a row is quiet, and its register no name, and written by no other row."""
    return is_quiet(row) and row[2] >= names and uses.writers[row[2]] == 1


def is_made_ahead(test, at, makers):
    return test in makers and makers[test] < at


def is_under(reader, piece, at, rows, makers):
    """Whether a reader stands behind a row in its piece, and bears its test or one that comes from it."""
    reading_piece, reading_at, test = reader
    return reading_piece == piece and reading_at > at and rows[at][0] in lineage(test, rows, makers)


def lean(tested):
    """Tell a tested program without the rows that nobody needs."""
    check_tested(tested)
    ins, names, pieces = tested
    thinning = Thinning(pieces)
    take_out_unneeded(thinning)
    left = [(rows_left(piece, len(rows), thinning), goes) for piece, (rows, goes) in enumerate(pieces)]
    return (ins, names, tuple(left))


def rows_left(piece, many, thinning):
    places = [(piece, at) for at in range(many)]
    return tuple([thinning.rows[place] for place in places if place in thinning.rows])


def take_out_unneeded(thinning):
    # One by one comes to the same as all at once: without a row no other one is needed more.
    looking = list(thinning.rows)
    while looking:
        place = looking.pop()
        if place in thinning.rows and is_unneeded(place, thinning):
            looking += taken_out(place, thinning)


def is_unneeded(place, thinning):
    row = thinning.rows[place]
    meets = met_by(row, place[0])
    return len(meets) > 0 and not any([thinning.needed.get(need, 0) > 0 for need in meets])


def taken_out(place, thinning):
    """Take a row out, and tell the places of those that may be needed no more."""
    row = thinning.rows.pop(place)
    freed = []
    for need in needs_of(row, place[0]):
        thinning.needed[need] -= 1
        if thinning.needed[need] == 0:
            freed += thinning.makers.get(need, [])
    return freed


def needs_of(row, piece):
    return [("worth", read) for read in read_by(row)] + [("test", piece, row[0])]


def met_by(row, piece):
    """The needs for which alone a row is there; none for one that shows by itself."""
    if is_quiet(row):
        return [("worth", row[2])]
    return [("test", piece, made) for made in made_by(row)]
