"""Programs run as they stand."""

from testedrows.programs import check_program
from testedrows.worths import CELLS, Ended, begin_round, check_fuel, check_handed, end_of, got, put_in, reckoned, truth


class Course:
    """What a program that is being run holds, has said, and has left of its fuel."""

    def __init__(self, names, fuel):
        self.names = names
        self.fuel = fuel
        self.cells = [0] * CELLS
        self.said = []


def run(program, handed, fuel):
    """Tell (said, end, cells) of a program."""
    check_program(program)
    ins, names, body = program
    check_handed(handed, ins)
    check_fuel(fuel)
    course = Course(handed + [0] * (names - ins), fuel)
    end = end_of(do_body, body, course)
    return (course.said, end, course.cells)


def do_body(body, course):
    for deed in body:
        do_deed(deed, course)


def do_deed(deed, course):
    word = deed[0]
    if word == "set":
        course.names[deed[1]] = worth_of(deed[2], course)
    elif word == "put":
        do_put(deed, course)
    elif word == "say":
        course.said.append(worth_of(deed[1], course))
    elif word == "stop":
        raise Ended(("worth", worth_of(deed[1], course)))
    elif word == "if":
        do_if(deed, course)
    else:
        do_while(deed, course)


def do_put(deed, course):
    cell = worth_of(deed[1], course)
    worth = worth_of(deed[2], course)
    # Only now: a fault in the part comes ahead of a cell that there isn't.
    put_in(course.cells, cell, worth)


def do_if(deed, course):
    if worth_of(deed[1], course) != 0:
        do_body(deed[2], course)
    else:
        do_body(deed[3], course)


def do_while(deed, course):
    while worth_of(deed[1], course) != 0:
        begin_round(course)
        do_body(deed[2], course)


def worth_of(part, course):
    word = part[0]
    if word == "num":
        return part[1]
    if word == "name":
        return course.names[part[1]]
    if word == "not":
        return 1 - truth(worth_of(part[1], course))
    if word == "get":
        return got(course.cells, worth_of(part[1], course))
    if word in ("and", "or", "pick"):
        return chosen(part, course)
    one = worth_of(part[1], course)
    other = worth_of(part[2], course)
    return reckoned(word, one, other)


def chosen(part, course):
    """The worth of a part that leaves one of those within it undone, or may do so."""
    word = part[0]
    holds = worth_of(part[1], course) != 0
    if word == "pick":
        return worth_of(part[2] if holds else part[3], course)
    if word == "and" and not holds:
        return 0
    if word == "or" and holds:
        return 1
    return truth(worth_of(part[2], course))
