"""Worths, cells and ends: what programs and rows do alike."""

from testedrows.errors import BadFuel, BadHanded

WORTHS = 10007
CELLS = 16
MOST_FUEL = 1000


class Ended(Exception):
    """All is over, by a stop, a fault, or for want of fuel; no refusal, so no RowsError."""

    def __init__(self, end):
        self.end = end


def is_number(value):
    # Python counts True and False among the integers.
    return isinstance(value, int) and not isinstance(value, bool)


def is_within(value, least, most):
    return is_number(value) and least <= value <= most


def is_worth(value):
    return is_within(value, 0, WORTHS - 1)


def check_handed(handed, ins):
    """Refuse what is no list of ins worths."""
    if not isinstance(handed, list) or len(handed) != ins:
        raise BadHanded("another count of numbers")
    for number in handed:
        if not is_worth(number):
            raise BadHanded("no number from 0 to 10006")


def check_fuel(fuel):
    if not is_within(fuel, 0, MOST_FUEL):
        raise BadFuel("no number from 0 to 1000")


def begin_round(course):
    """Take a round from the fuel of what is being run; all is over where there is none left."""
    if course.fuel == 0:
        raise Ended(("long",))
    course.fuel -= 1


def end_of(doing, things, course):
    """How all ends, where the things are done in the course of a run."""
    try:
        doing(things, course)
    except Ended as ended:
        return ended.end
    return ("worth", 0)


def reckoned(word, one, other):
    """What a word of two worths comes to."""
    if word == "add":
        return (one + other) % WORTHS
    if word == "take":
        return (one - other) % WORTHS
    if word == "times":
        return (one * other) % WORTHS
    if word == "less":
        return 1 if one < other else 0
    if word == "same":
        return 1 if one == other else 0
    return divided(word, one, other)


def divided(word, one, other):
    if other == 0:
        raise Ended(("fault", "over"))
    if word == "over":
        return one // other
    return one % other


def truth(worth):
    """1 for what counts as holding, else 0."""
    return 0 if worth == 0 else 1


def got(cells, cell):
    check_cell(cell)
    return cells[cell]


def put_in(cells, cell, worth):
    check_cell(cell)
    cells[cell] = worth


def check_cell(cell):
    if cell >= CELLS:
        raise Ended(("fault", "cell"))
