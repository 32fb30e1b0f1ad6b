"""Programs turned to tested ones.

Both sides of an if stand behind one another in one piece, each under a test of its own. Where a while stands within,
the if is split to pieces, for a piece's tests are gone behind it. Of a while the body stands ahead of the part, so that
to go back to the body is a round, and nothing else is.
"""

from testedrows.programs import check_program

TO_THE_END = ((0, -1),)


class Turning:
    """The rows and goes of each piece so far, of which the last one is being written, and the next free numbers."""

    def __init__(self, names):
        self.rows = [[]]
        self.goes = [TO_THE_END]
        self.next_register = names
        self.next_test = 1


def turned(program):
    """Tell a tested program that does what a program does."""
    check_program(program)
    ins, names, body = program
    turning = Turning(names)
    turn_body(body, 0, turning)
    pieces = tuple([(tuple(rows), goes) for rows, goes in zip(turning.rows, turning.goes)])
    return (ins, names, pieces)


def begin_piece(turning):
    """Begin a piece, and tell its number."""
    turning.rows.append([])
    turning.goes.append(TO_THE_END)
    return last_piece(turning)


def last_piece(turning):
    return len(turning.rows) - 1


def write_row(row, turning):
    turning.rows[-1].append(row)


def new_register(turning):
    turning.next_register += 1
    return turning.next_register - 1


def turn_body(body, test, turning):
    for deed in body:
        turn_deed(deed, test, turning)


def turn_deed(deed, test, turning):
    word = deed[0]
    if word == "set":
        write_row((test, "copy", deed[1], turn_part(deed[2], test, turning)), turning)
    elif word == "put":
        cell = turn_part(deed[1], test, turning)
        worth = turn_part(deed[2], test, turning)
        write_row((test, "put", cell, worth), turning)
    elif word == "while":
        turn_while(deed, turning)
    elif word == "if" and has_while(deed):
        split_if(deed, turning)
    elif word == "if":
        turn_if(deed, test, turning)
    else:
        write_row((test, word, turn_part(deed[1], test, turning)), turning)


def has_while(deed):
    if deed[0] == "if":
        return any([has_while(held) for held in deed[2] + deed[3]])
    return deed[0] == "while"


def turn_if(deed, test, turning):
    nonzero, zero = turn_to_tests(deed[1], test, turning)
    turn_body(deed[2], nonzero, turning)
    turn_body(deed[3], zero, turning)


def split_if(deed, turning):
    """Turn an if to pieces; where it stands all bears 0, for what is around it is split, too."""
    nonzero = turn_to_tests(deed[1], 0, turning)[0]
    ahead = last_piece(turning)
    one = begin_piece(turning)
    turn_body(deed[2], 0, turning)
    end_of_one = last_piece(turning)
    other = begin_piece(turning)
    turn_body(deed[3], 0, turning)
    end_of_other = last_piece(turning)
    behind = begin_piece(turning)
    turning.goes[ahead] = ((nonzero, one), (0, other))
    turning.goes[end_of_one] = ((0, behind),)
    turning.goes[end_of_other] = ((0, behind),)


def turn_while(deed, turning):
    """Turn a while to pieces: the body's, the part's, and one to go on with; all bears 0, as in split_if."""
    ahead = last_piece(turning)
    body = begin_piece(turning)
    turn_body(deed[2], 0, turning)
    end_of_body = last_piece(turning)
    asking = begin_piece(turning)
    nonzero = turn_to_tests(deed[1], 0, turning)[0]
    behind = begin_piece(turning)
    turning.goes[ahead] = ((0, asking),)
    turning.goes[end_of_body] = ((0, asking),)
    turning.goes[asking] = ((nonzero, body), (0, behind))


def turn_to_tests(part, test, turning):
    """Turn a part, and tell the two tests that hold, under test, if it isn't 0 and if it is."""
    worth = turn_part(part, test, turning)
    nonzero = turning.next_test
    zero = nonzero + 1
    turning.next_test += 2
    write_row((test, "test", nonzero, zero, worth), turning)
    return (nonzero, zero)


def turn_part(part, test, turning):
    """Turn a part, and tell the register that holds its worth behind its rows."""
    word = part[0]
    if word == "name":
        # No part writes a name, so it still holds its worth wherever the part's is read.
        return part[1]
    if word == "pick":
        return turn_pick(part, test, turning)
    if word in ("and", "or"):
        return turn_and_or(part, test, turning)
    if word == "num":
        behind = (part[1],)
    else:
        behind = tuple([turn_part(held, test, turning) for held in part[1:]])
    written = new_register(turning)
    write_row((test, word, written) + behind, turning)
    return written


def turn_pick(part, test, turning):
    nonzero, zero = turn_to_tests(part[1], test, turning)
    written = new_register(turning)
    for side, held in ((nonzero, part[2]), (zero, part[3])):
        write_row((side, "copy", written, turn_part(held, side, turning)), turning)
    return written


def turn_and_or(part, test, turning):
    nonzero, zero = turn_to_tests(part[1], test, turning)
    if part[0] == "and":
        settled, worth, unsettled = zero, 0, nonzero
    else:
        settled, worth, unsettled = nonzero, 1, zero
    written = new_register(turning)
    write_row((settled, "num", written, worth), turning)
    other = turn_part(part[2], unsettled, turning)
    # Twice not: 1 for all that isn't 0.
    write_row((unsettled, "not", written, other), turning)
    write_row((unsettled, "not", written, written), turning)
    return written
