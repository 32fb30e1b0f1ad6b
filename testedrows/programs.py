"""What a program is, and what is refused as none."""

from testedrows.errors import BadProgram
from testedrows.worths import is_number, is_within, is_worth

MOST_INS = 3
MOST_NAMES = 99
MOST_THINGS = 400
MOST_AROUND = 11

# Behind each word: what stands in its places.
DEEDS = {
    "set": ("name", "part"),
    "put": ("part", "part"),
    "say": ("part",),
    "stop": ("part",),
    "if": ("part", "body", "body"),
    "while": ("part", "body"),
}
PARTS = {
    "num": ("number",),
    "name": ("name",),
    "add": ("part", "part"),
    "take": ("part", "part"),
    "times": ("part", "part"),
    "over": ("part", "part"),
    "rest": ("part", "part"),
    "less": ("part", "part"),
    "same": ("part", "part"),
    "and": ("part", "part"),
    "or": ("part", "part"),
    "not": ("part",),
    "get": ("part",),
    "pick": ("part", "part", "part"),
}


def check_program(program):
    """Refuse what is no program."""
    if not isinstance(program, tuple) or len(program) != 3 or not isinstance(program[2], tuple):
        raise BadProgram(-1, "shape")
    ins, names, body = program
    if not is_within(ins, 0, MOST_INS):
        raise BadProgram(-1, "ins")
    if not is_within(names, ins, MOST_NAMES):
        raise BadProgram(-1, "names")
    check_body(body, 0, 0, names)


def check_body(body, at, around, names):
    """Refuse a body with a thing that can't be; else tell the number behind its last thing."""
    for deed in body:
        at = check_thing("deed", deed, at, around, names)
    return at


def check_thing(kind, thing, at, around, names):
    """Refuse a thing that can't be, or one within it; else tell the number behind them.

    at is the thing's own number, around how many others it is within.
    """
    why = why_not(kind, thing, at, around, names)
    if why is not None:
        raise BadProgram(at, why)
    behind = at + 1
    for place, held in zip(places_behind(kind, thing[0]), thing[1:]):
        if place == "part":
            behind = check_thing("part", held, behind, around + 1, names)
        elif place == "body":
            behind = check_body(held, behind, around + 1, names)
    return behind


def why_not(kind, thing, at, around, names):
    """Why a thing can't be, not counting those within it; None for one that can."""
    if at >= MOST_THINGS:
        return "many"
    if around > MOST_AROUND:
        return "deep"
    if not is_shaped(kind, thing):
        return "shape"
    if thing[0] == "num" and not is_worth(thing[1]):
        return "number"
    if thing[0] in ("name", "set") and not is_within(thing[1], 0, names - 1):
        return "name"
    return None


def is_shaped(kind, thing):
    # Only a text may be looked up: a list in the word's place can't be a key.
    if not isinstance(thing, tuple) or len(thing) == 0 or not isinstance(thing[0], str):
        return False
    places = places_behind(kind, thing[0])
    if places is None or len(thing) != len(places) + 1:
        return False
    for place, held in zip(places, thing[1:]):
        if not may_stand(place, held):
            return False
    return True


def places_behind(kind, word):
    """What stands in the places behind a word, None for a word that there isn't."""
    if kind == "deed":
        return DEEDS.get(word)
    return PARTS.get(word)


def may_stand(place, held):
    if place == "body":
        return isinstance(held, tuple)
    if place == "part":
        # A part is a thing of its own, and is refused under its own number.
        return True
    return is_number(held)
