"""The machine on which nothing is jumped over."""

from testedrows.rows import REGISTERS, check_tested
from testedrows.worths import CELLS, Ended, begin_round, check_fuel, check_handed, end_of, got, put_in, reckoned, truth


class Machine:
    """What the machine holds, has said, has left of its fuel, and has counted."""

    def __init__(self, registers, fuel):
        self.registers = registers
        self.fuel = fuel
        self.cells = [0] * CELLS
        self.said = []
        self.holding = {}
        self.looked = 0
        self.done = 0


def run_rows(tested, handed, fuel):
    """Tell (said, end, cells) of a tested program."""
    machine = made_machine(tested, handed, fuel)
    end = end_of(do_pieces, tested[2], machine)
    return (machine.said, end, machine.cells)


def counts(tested, handed, fuel):
    """Tell (how many rows are looked at, how many of them are done)."""
    machine = made_machine(tested, handed, fuel)
    end_of(do_pieces, tested[2], machine)
    return (machine.looked, machine.done)


def made_machine(tested, handed, fuel):
    """A machine that is to begin, unless something is refused."""
    check_tested(tested)
    ins = tested[0]
    check_handed(handed, ins)
    check_fuel(fuel)
    return Machine(handed + [0] * (REGISTERS - ins), fuel)


def do_pieces(pieces, machine):
    at = 0
    while at != -1:
        rows, goes = pieces[at]
        begin_piece(machine)
        for row in rows:
            look_at(row, machine.holding, machine.registers, machine)
        following = piece_behind(goes, machine.holding)
        if 0 <= following <= at:
            begin_round(machine)
        at = following


def begin_piece(machine):
    machine.holding = {0: True}


def piece_behind(goes, holding):
    """Where the first of the goes leads whose test holds; the last one's always does."""
    return [piece for test, piece in goes if holds(test, holding)][0]


def holds(test, holding):
    return holding.get(test, False)


def look_at(row, holding, registers, machine):
    """Look at a row, by what holds and by what the registers hold; what it does is done to the machine."""
    # Counted first: a row that stops or fails is counted, too.
    machine.looked += 1
    is_done = holds(row[0], holding)
    if is_done:
        machine.done += 1
    if row[1] == "test":
        make_tests(row, is_done, registers, machine)
    elif is_done:
        do_row(row, registers, machine)


def make_tests(row, is_done, registers, machine):
    is_zero = registers[row[4]] == 0
    machine.holding[row[2]] = is_done and not is_zero
    machine.holding[row[3]] = is_done and is_zero


def do_row(row, registers, machine):
    word = row[1]
    if word == "put":
        put_in(machine.cells, registers[row[2]], registers[row[3]])
    elif word == "say":
        machine.said.append(registers[row[2]])
    elif word == "stop":
        raise Ended(("worth", registers[row[2]]))
    else:
        machine.registers[row[2]] = worth_of_row(row, registers, machine.cells)


def worth_of_row(row, registers, cells):
    """What a row writes in its register."""
    word = row[1]
    if word == "num":
        return row[3]
    if word == "copy":
        return registers[row[3]]
    if word == "not":
        return 1 - truth(registers[row[3]])
    if word == "get":
        return got(cells, registers[row[3]])
    return reckoned(word, registers[row[3]], registers[row[4]])
