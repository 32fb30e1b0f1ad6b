"""Points [1], [4] and [5]: what each word does, faults, cells, rounds, fuel, and what run tells."""

import copy
import unittest

from made import SIGNS, Made
from testedrows.errors import BadFuel, BadHanded
from testedrows.plain import run

ZERO = ("num", 0)
ONE = ("num", 1)
NO_CELLS = [0] * 16
OVER = ("over", ONE, ZERO)
CELL = ("get", ("num", 16))


def num(n):
    return ("num", n)


def of_deeds(*deeds, ins=0, names=0):
    return (ins, names, tuple(deeds))


def cells_with(**puts):
    cells = list(NO_CELLS)
    for cell, worth in puts.items():
        cells[int(cell[1:])] = worth
    return cells


class Told(unittest.TestCase):
    def tells(self, program, said, end, cells=None, handed=None, fuel=1000):
        expected = (said, end, NO_CELLS if cells is None else cells)
        told = run(program, [] if handed is None else handed, fuel)
        self.assertEqual(told, expected, program)
        self.assertIsInstance(told, tuple)
        self.assertEqual([type(kind) for kind in told], [list, tuple, list])
        self.assertEqual({type(worth) for worth in told[0] + told[2]} - {int}, set())

    def comes_to(self, part, worth):
        self.tells(of_deeds(("say", part)), [worth], ("worth", 0))

    def faults(self, part, word):
        self.tells(of_deeds(("say", ONE), ("say", part), ("say", ONE)), [1], ("fault", word))


class TestParts(Told):
    def test_num(self):
        for n in (0, 1, 10006):
            self.comes_to(num(n), n)

    def test_name(self):
        program = of_deeds(*[("say", ("name", name)) for name in range(5)], ins=3, names=5)
        self.tells(program, [7, 0, 10006, 0, 0], ("worth", 0), handed=[7, 0, 10006])

    def test_add(self):
        for one, other, worth in ((2, 3, 5), (0, 0, 0), (10006, 0, 10006), (10006, 1, 0), (10006, 10006, 10005)):
            self.comes_to(("add", num(one), num(other)), worth)

    def test_take(self):
        for one, other, worth in ((5, 3, 2), (3, 3, 0), (10006, 0, 10006), (0, 1, 10006), (0, 10006, 1), (3, 5, 10005)):
            self.comes_to(("take", num(one), num(other)), worth)

    def test_times(self):
        for one, other, worth in ((2, 3, 6), (0, 9, 0), (100, 100, 10000), (101, 100, 93), (10006, 10006, 1),
                                  (10006, 2, 10005)):
            self.comes_to(("times", num(one), num(other)), worth)

    def test_over(self):
        for one, other, worth in ((6, 3, 2), (7, 3, 2), (8, 3, 2), (2, 3, 0), (0, 3, 0), (10006, 1, 10006),
                                  (10006, 10006, 1), (10005, 10006, 0)):
            self.comes_to(("over", num(one), num(other)), worth)

    def test_rest(self):
        for one, other, worth in ((6, 3, 0), (7, 3, 1), (8, 3, 2), (2, 3, 2), (0, 3, 0), (10006, 1, 0),
                                  (10006, 10006, 0), (10005, 10006, 10005)):
            self.comes_to(("rest", num(one), num(other)), worth)

    def test_over_and_rest_by_0(self):
        for word in ("over", "rest"):
            for one in (0, 1, 10006):
                self.faults((word, num(one), ZERO), "over")
            self.faults((word, ONE, ("add", num(10006), ONE)), "over")

    def test_less(self):
        for one, other, worth in ((0, 1, 1), (1, 0, 0), (1, 1, 0), (0, 0, 0), (10005, 10006, 1), (10006, 0, 0)):
            self.comes_to(("less", num(one), num(other)), worth)

    def test_same(self):
        for one, other, worth in ((0, 1, 0), (1, 0, 0), (1, 1, 1), (0, 0, 1), (10006, 10006, 1)):
            self.comes_to(("same", num(one), num(other)), worth)

    def test_not(self):
        for one, worth in ((0, 1), (1, 0), (2, 0), (10006, 0)):
            self.comes_to(("not", num(one)), worth)

    def test_and(self):
        for one, other, worth in ((0, 0, 0), (0, 5, 0), (5, 0, 0), (5, 7, 1), (1, 1, 1), (10006, 2, 1)):
            self.comes_to(("and", num(one), num(other)), worth)

    def test_or(self):
        for one, other, worth in ((0, 0, 0), (0, 5, 1), (5, 0, 1), (5, 7, 1), (1, 1, 1), (0, 10006, 1), (2, 0, 1)):
            self.comes_to(("or", num(one), num(other)), worth)

    def test_pick(self):
        for part, worth in ((0, 9), (1, 8), (2, 8), (10006, 8)):
            self.comes_to(("pick", num(part), num(8), num(9)), worth)


class TestUndone(Told):
    """What is not to be done is not done: a fault in it doesn't show."""

    def test_and(self):
        for bad in (OVER, CELL):
            self.comes_to(("and", ZERO, bad), 0)
        self.faults(("and", ONE, OVER), "over")
        self.faults(("and", num(10006), CELL), "cell")
        self.faults(("and", OVER, ONE), "over")
        self.faults(("and", OVER, CELL), "over")

    def test_or(self):
        for bad in (OVER, CELL):
            self.comes_to(("or", ONE, bad), 1)
            self.comes_to(("or", num(7), bad), 1)
        self.faults(("or", ZERO, OVER), "over")
        self.faults(("or", ZERO, CELL), "cell")
        self.faults(("or", CELL, OVER), "cell")

    def test_pick(self):
        for bad in (OVER, CELL):
            self.comes_to(("pick", num(3), num(8), bad), 8)
            self.comes_to(("pick", ZERO, bad, num(9)), 9)
        self.faults(("pick", ONE, OVER, CELL), "over")
        self.faults(("pick", ZERO, OVER, CELL), "cell")
        self.faults(("pick", OVER, CELL, CELL), "over")

    def test_if(self):
        bad = ("say", OVER)
        self.tells(of_deeds(("if", num(2), (("say", num(8)),), (bad,))), [8], ("worth", 0))
        self.tells(of_deeds(("if", ZERO, (bad,), (("say", num(9)),))), [9], ("worth", 0))

    def test_while(self):
        self.tells(of_deeds(("while", ZERO, (("say", OVER),))), [], ("worth", 0), fuel=0)


class TestFaultsInTurn(Told):
    """Which of two faults comes first."""

    def test_the_former_part_is_done_first(self):
        for word in ("add", "take", "times", "over", "rest", "less", "same"):
            self.faults((word, OVER, CELL), "over")
            self.faults((word, CELL, OVER), "cell")

    def test_parts_ahead_of_the_word_itself(self):
        self.faults(("over", CELL, ZERO), "cell")
        self.faults(("rest", CELL, ZERO), "cell")
        self.faults(("get", OVER), "over")
        self.faults(("not", OVER), "over")
        self.faults(("get", CELL), "cell")

    def test_put_does_the_cell_then_the_part_then_puts(self):
        for cell, part, word in ((OVER, CELL, "over"), (CELL, OVER, "cell"), (num(16), OVER, "over"),
                                 (num(16), ONE, "cell"), (OVER, ONE, "over"), (num(3), OVER, "over")):
            self.tells(of_deeds(("put", cell, part)), [], ("fault", word))

    def test_a_fault_in_each_deed(self):
        self.tells(of_deeds(("set", 0, OVER), names=1), [], ("fault", "over"))
        self.tells(of_deeds(("say", CELL)), [], ("fault", "cell"))
        self.tells(of_deeds(("stop", OVER)), [], ("fault", "over"))
        self.tells(of_deeds(("if", CELL, (), ())), [], ("fault", "cell"))
        self.tells(of_deeds(("while", OVER, ())), [], ("fault", "over"), fuel=0)

    def test_what_was_said_and_put_until_then(self):
        program = of_deeds(("say", num(4)), ("put", num(2), num(9)), ("say", num(5)), ("say", OVER), ("say", num(6)),
                           ("put", num(2), num(8)))
        self.tells(program, [4, 5], ("fault", "over"), cells_with(c2=9))


class TestDeeds(Told):
    def test_set(self):
        program = of_deeds(("set", 1, num(5)), ("set", 0, ("add", ("name", 0), ("name", 1))), ("say", ("name", 0)),
                           ("set", 98, ("name", 0)), ("say", ("name", 98)), ("say", ("name", 97)), ins=1, names=99)
        self.tells(program, [12, 12, 0], ("worth", 0), handed=[7])

    def test_set_reads_ahead_of_writing(self):
        program = of_deeds(("set", 0, ("times", ("name", 0), ("name", 0))), ("stop", ("name", 0)), ins=1, names=1)
        self.tells(program, [], ("worth", 49), handed=[7])

    def test_put_and_get(self):
        program = of_deeds(("put", ZERO, num(10006)), ("put", num(15), num(4)), ("say", ("get", ZERO)),
                           ("say", ("get", num(15))), ("say", ("get", num(7))), ("put", ZERO, num(3)),
                           ("say", ("get", ZERO)))
        self.tells(program, [10006, 4, 0, 3], ("worth", 0), cells_with(c0=3, c15=4))

    def test_each_cell(self):
        program = of_deeds(*[("put", num(cell), num(cell + 100)) for cell in range(16)])
        self.tells(program, [], ("worth", 0), [cell + 100 for cell in range(16)])

    def test_cells_that_there_are_not(self):
        for cell in (16, 17, 10006):
            self.faults(("get", num(cell)), "cell")
            self.tells(of_deeds(("put", num(cell), ONE)), [], ("fault", "cell"))

    def test_the_cell_is_a_part(self):
        program = of_deeds(("put", ("name", 0), ("get", ("take", ("name", 0), ONE))), ins=1, names=1)
        self.tells(program, [], ("worth", 0), handed=[15])
        self.tells(program, [], ("fault", "cell"), handed=[0])
        self.tells(program, [], ("fault", "cell"), handed=[16])

    def test_put_reads_cells_ahead_of_putting(self):
        two = ("put", num(2), ("add", ("get", num(2)), ONE))
        self.tells(of_deeds(two, two, two), [], ("worth", 0), cells_with(c2=3))

    def test_say_in_turn(self):
        self.tells(of_deeds(("say", num(3)), ("say", num(3)), ("say", ZERO), ("say", num(2))), [3, 3, 0, 2],
                   ("worth", 0))

    def test_if(self):
        program = of_deeds(("if", ("name", 0), (("say", ONE), ("say", num(2))), (("say", num(3)),)), ("say", num(4)),
                           ins=1, names=1)
        for handed in (1, 2, 10006):
            self.tells(program, [1, 2, 4], ("worth", 0), handed=[handed])
        self.tells(program, [3, 4], ("worth", 0), handed=[0])

    def test_empty_bodies(self):
        self.tells(of_deeds(), [], ("worth", 0), fuel=0)
        self.tells(of_deeds(("if", ONE, (), (("stop", ONE),)), ("if", ZERO, (("stop", ONE),), ())), [], ("worth", 0))


def counting(many, *deeds):
    """A while of many rounds; the name 0 counts them down."""
    return (0, 2, (("set", 0, num(many)),
                   ("while", ("name", 0), (("set", 0, ("take", ("name", 0), ONE)), *deeds)),
                   ("say", num(77))))


class TestEnds(Told):
    def test_the_end_of_the_body(self):
        self.tells(of_deeds(("say", num(5))), [5], ("worth", 0))

    def test_stop(self):
        for worth in (0, 1, 10006):
            self.tells(of_deeds(("stop", num(worth))), [], ("worth", worth))

    def test_stop_in_the_midst(self):
        program = of_deeds(("say", ONE), ("put", ONE, num(4)), ("stop", num(9)), ("say", num(2)), ("stop", num(8)))
        self.tells(program, [1], ("worth", 9), cells_with(c1=4))

    def test_stop_within_an_if(self):
        stop = (("stop", num(9)), ("say", num(2)))
        self.tells(of_deeds(("if", ONE, stop, ()), ("say", num(3))), [], ("worth", 9))
        self.tells(of_deeds(("if", ZERO, (), stop), ("say", num(3))), [], ("worth", 9))

    def test_stop_within_a_while(self):
        self.tells(of_deeds(("while", ONE, (("say", ONE), ("stop", num(9)), ("say", num(2)))), ("say", num(3))),
                   [1], ("worth", 9), fuel=1)

    def test_stop_within_ifs_and_whiles(self):
        program = counting(5, ("while", ONE, (("if", ("less", ("name", 0), num(3)), (("stop", ("name", 0)),),
                                               (("say", ("name", 0)), ("set", 0, ("take", ("name", 0), ONE)))),)))
        self.tells(program, [4, 3], ("worth", 2), fuel=4)
        self.tells(program, [4, 3], ("long",), fuel=3)


class TestFuel(Told):
    def test_as_many_rounds_as_are_needed(self):
        for many in (0, 1, 2, 9, 999, 1000):
            for fuel in (many, min(many + 1, 1000), 1000):
                self.tells(counting(many), [77], ("worth", 0), fuel=fuel)

    def test_one_round_fewer(self):
        for many in (1, 2, 9, 1000):
            self.tells(counting(many), [], ("long",), fuel=many - 1)

    def test_more_than_can_be(self):
        self.tells(counting(1001), [], ("long",), fuel=1000)
        self.tells(of_deeds(("while", ONE, ())), [], ("long",), fuel=1000)

    def test_fuel_0(self):
        self.tells(of_deeds(("say", ONE), ("while", ONE, (("say", num(2)),))), [1], ("long",), fuel=0)
        self.tells(of_deeds(("while", ZERO, ()), ("say", ONE)), [1], ("worth", 0), fuel=0)

    def test_what_was_said_and_put_until_then(self):
        program = counting(9, ("say", ("name", 0)), ("put", ("name", 0), ("name", 0)))
        self.tells(program, [8, 7, 6], ("long",), cells_with(c8=8, c7=7, c6=6), fuel=3)

    def test_the_part_is_done_once_more(self):
        # Behind the last round there is fuel for, the while's own part still counts: 0, or a fault.
        self.tells(of_deeds(("while", ("not", ("get", ZERO)), (("put", ZERO, ONE),))), [], ("worth", 0),
                   cells_with(c0=1), fuel=1)
        self.tells(of_deeds(("while", ("over", ONE, ("not", ("get", ZERO))), (("put", ZERO, ONE),))), [],
                   ("fault", "over"), cells_with(c0=1), fuel=1)

    def test_whiles_within_one_another(self):
        inner = ("while", ("name", 1), (("set", 1, ("take", ("name", 1), ONE)), ("say", ("name", 1))))
        program = counting(2, ("say", num(50)), ("set", 1, num(3)), inner)
        said = [50, 2, 1, 0, 50, 2, 1, 0, 77]
        for fuel in (8, 9, 1000):
            self.tells(program, said, ("worth", 0), fuel=fuel)
        self.tells(program, said[:7], ("long",), fuel=7)
        self.tells(program, said[:4], ("long",), fuel=4)
        self.tells(program, said[:1], ("long",), fuel=1)

    def test_whiles_behind_one_another_share_the_fuel(self):
        one = (("set", 0, num(2)), ("while", ("name", 0), (("set", 0, ("take", ("name", 0), ONE)), ("say", ONE))))
        program = (0, 1, one + one)
        self.tells(program, [1, 1, 1, 1], ("worth", 0), fuel=4)
        self.tells(program, [1, 1, 1], ("long",), fuel=3)
        self.tells(program, [1, 1], ("long",), fuel=2)

    def test_a_while_that_is_stopped_or_fails(self):
        self.tells(counting(3, ("stop", num(5))), [], ("worth", 5), fuel=1)
        self.tells(counting(3, ("say", ("over", ONE, ("take", ("name", 0), ONE)))), [1], ("fault", "over"), fuel=2)


class TestHandedAndFuel(unittest.TestCase):
    BAD_NUMBERS = (-1, 10007, 10 ** 30, None, True, False, "1", (), [], [1], (1,))

    def test_as_many_as_ins(self):
        for ins in range(4):
            program = (ins, ins, ())
            for many in range(6):
                if many == ins:
                    self.assertEqual(run(program, [10006] * many, 0), ([], ("worth", 0), NO_CELLS))
                else:
                    self.assertRaises(BadHanded, run, program, [1] * many, 0)

    def test_as_many_as_ins_not_as_names(self):
        self.assertRaises(BadHanded, run, (1, 2, ()), [1, 2], 0)

    def test_no_list(self):
        for handed in (None, 0, True, "", "1", (), (1,)):
            for ins in (0, 1):
                self.assertRaises(BadHanded, run, (ins, 1, ()), handed, 0)

    def test_bad_numbers(self):
        for bad in self.BAD_NUMBERS:
            for handed in ([bad, 0, 0], [0, bad, 0], [0, 0, bad]):
                self.assertRaises(BadHanded, run, (3, 3, ()), handed, 0)

    def test_bounds(self):
        for number in (0, 1, 10006):
            self.assertEqual(run((1, 1, (("stop", ("name", 0)),)), [number], 0)[1], ("worth", number))

    def test_fuel(self):
        for fuel in (0, 1, 999, 1000):
            self.assertEqual(run((0, 0, ()), [], fuel), ([], ("worth", 0), NO_CELLS))
        for fuel in (-1, 1001, 10 ** 30, None, True, False, "1", "", (), [], [1]):
            self.assertRaises(BadFuel, run, (0, 0, ()), [], fuel)


class TestNothingIsChanged(unittest.TestCase):
    PROGRAM = of_deeds(("set", 0, num(5)), ("say", ("name", 0)), ("say", ("name", 1)), ("put", num(3), ("name", 0)),
                       ("set", 2, num(6)), ins=2, names=3)

    def test_what_is_handed_in(self):
        program = copy.deepcopy(self.PROGRAM)
        for ins in (2, 3):
            handed = [8, 9, 10][:ins]
            run((ins, 3, program[2]), handed, 7)
            self.assertEqual(handed, [8, 9, 10][:ins])
        self.assertEqual(program, self.PROGRAM)

    def test_what_is_handed_in_when_it_is_refused(self):
        handed = [8, 10007]
        self.assertRaises(BadHanded, run, self.PROGRAM, handed, 7)
        self.assertEqual(handed, [8, 10007])

    def test_lists_that_are_told_may_be_changed(self):
        handed = [8, 9]
        first = run(self.PROGRAM, handed, 7)
        kept = copy.deepcopy(first)
        first[0].append(1)
        first[0][0] = 99
        first[2].clear()
        self.assertEqual(run(self.PROGRAM, handed, 7), kept)
        self.assertEqual(kept, ([5, 9], ("worth", 0), cells_with(c3=5)))
        self.assertEqual(handed, [8, 9])

    def test_the_lists_are_told_anew(self):
        one = run(self.PROGRAM, [8, 9], 7)
        other = run(self.PROGRAM, [8, 9], 7)
        self.assertIsNot(one[0], other[0])
        self.assertIsNot(one[2], other[2])
        self.assertIsNot(one[0], one[2])

    def test_the_same_is_told_behind_other_runs(self):
        looping = of_deeds(("while", ONE, (("put", ZERO, ONE), ("say", ONE))))
        first = run(looping, [], 3)
        run(self.PROGRAM, [1, 2], 7)
        self.assertRaises(BadFuel, run, looping, [], 1001)
        self.assertEqual(run(looping, [], 3), first)


def part_text(part):
    word = part[0]
    if word == "num":
        return str(part[1])
    if word == "name":
        return f"n{part[1]}"
    texts = [part_text(held) for held in part[1:]]
    if word == "pick":
        return f"({texts[1]} if {texts[0]} else {texts[2]})"
    return "(" + SIGNS[word].format(*texts) + ")"


def body_rows(body):
    rows = ["pass"]
    for deed in body:
        word = deed[0]
        if word == "set":
            rows.append(f"n{deed[1]} = {part_text(deed[2])}")
        elif word == "put":
            rows.append(f"cell, worth = {part_text(deed[1])}, {part_text(deed[2])}")
            rows.append("cells[cell] = worth")
        elif word == "say":
            rows.append(f"said.append({part_text(deed[1])})")
        elif word == "stop":
            rows.append(f"return ('worth', {part_text(deed[1])})")
        elif word == "if":
            rows.append(f"if {part_text(deed[1])}:")
            rows += [" " + row for row in body_rows(deed[2])]
            rows.append("else:")
            rows += [" " + row for row in body_rows(deed[3])]
        else:
            rows.append(f"while {part_text(deed[1])}:")
            rows += [" if fuel == 0: return ('long',)", " fuel -= 1"]
            rows += [" " + row for row in body_rows(deed[2])]
    return rows


def python_run(body, handed, fuel):
    names = handed + [0] * (Made.NAMES - len(handed))
    rows = [f"n{name} = {worth}" for name, worth in enumerate(names)] + body_rows(body) + ["return ('worth', 0)"]
    held = {}
    exec("\n".join(["def told(fuel, said, cells):"] + [" " + row for row in rows]), held)
    said, cells = [], [0] * 16
    try:
        end = held["told"](fuel, said, cells)
    except ZeroDivisionError:
        end = ("fault", "over")
    except IndexError:
        end = ("fault", "cell")
    return (said, end, cells)


class TestAgainstPython(unittest.TestCase):
    def test_made_programs(self):
        made = Made(20)
        ends = []
        for _ in range(3000):
            body = made.body(3)
            ins = made.chance.randrange(4)
            handed = [made.chance.choice((0, 1, 2, 15, 16, 10006)) for _ in range(ins)]
            fuel = made.chance.choice((0, 1, 2, 5, 30))
            expected = python_run(body, handed, fuel)
            self.assertEqual(run((ins, Made.NAMES, body), handed, fuel), expected, body)
            ends.append(expected[1][:1] if expected[1][0] != "fault" else expected[1])
        for end in (("worth",), ("long",), ("fault", "over"), ("fault", "cell")):
            self.assertGreater(ends.count(end), 100)


if __name__ == "__main__":
    unittest.main()
