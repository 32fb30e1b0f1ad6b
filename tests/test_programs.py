"""Points [2] and [3]: what a program is, and what BadProgram is refused for."""

import unittest

from testedrows.errors import BadProgram
from testedrows.plain import run
from testedrows.programs import check_program

ONE = ("num", 1)
SAY = ("say", ONE)
TWO_PARTS = ("add", "take", "times", "over", "rest", "less", "same", "and", "or")
# Every word stands in it, and bodies that are empty, and ones of several deeds.
ALL_WORDS = (2, 4, (
    ("set", 3, ("add", ("name", 0), ("take", ("name", 1), ONE))),
    ("put", ("times", ONE, ONE), ("over", ONE, ("rest", ONE, ONE))),
    ("if", ("less", ONE, ONE), (SAY, ("stop", ("same", ONE, ONE))), (SAY, SAY)),
    ("while", ("and", ONE, ("or", ONE, ONE)), (("if", ("not", ONE), (), ()), SAY)),
    ("say", ("pick", ("get", ONE), ("name", 2), ("num", 2))),
    ("while", ONE, ()),
    ("stop", ("num", 0)),
))


def refusal(program):
    """(at, why), None for a program."""
    try:
        check_program(program)
    except BadProgram as bad:
        return (bad.at, bad.why)
    return None


def of_deeds(*deeds, ins=0, names=0):
    return (ins, names, tuple(deeds))


def of_part(part, names=0):
    return of_deeds(("say", part), names=names)


def nots(many, part):
    for _ in range(many):
        part = ("not", part)
    return part


def says(many):
    return [SAY] * many


def is_deed_or_part(thing):
    return isinstance(thing, tuple) and len(thing) > 0 and isinstance(thing[0], str)


def with_thing(program, at, other):
    """The program with another thing in the place of the thing at; the things are counted from 0."""
    seen = [-1]

    def anew(thing):
        if not isinstance(thing, tuple):
            return thing
        if is_deed_or_part(thing):
            seen[0] += 1
            if seen[0] == at:
                return other
        return tuple([anew(held) for held in thing])

    ins, names, body = program
    return (ins, names, anew(body))


def things_in(value):
    if not isinstance(value, tuple):
        return []
    within = [thing for held in value for thing in things_in(held)]
    return [value] + within if is_deed_or_part(value) else within


class Refused(unittest.TestCase):
    def refused(self, program, at, why):
        self.assertEqual(refusal(program), (at, why), program)

    def let_by(self, program):
        self.assertIsNone(refusal(program), program)


class TestWhole(Refused):
    def test_programs_are_let_by(self):
        self.let_by((0, 0, ()))
        self.let_by(ALL_WORDS)

    def test_no_tuple_of_three_with_a_body(self):
        for program in (None, True, False, 0, 7, "", "abc", [], [0, 0, ()], (), (0,), (0, 0), (0, 0, (), ())):
            self.refused(program, -1, "shape")
        for body in (None, True, False, 0, "", "say", [], [SAY]):
            self.refused((0, 0, body), -1, "shape")

    def test_ins(self):
        for ins in (0, 1, 2, 3):
            self.let_by((ins, 99, ()))
        for ins in (-1, 4, None, True, False, "1", (), [], (1,)):
            self.refused((ins, 99, ()), -1, "ins")

    def test_names(self):
        for ins in (0, 1, 2, 3):
            self.let_by((ins, ins, ()))
            self.let_by((ins, 99, ()))
            self.refused((ins, ins - 1, ()), -1, "names")
            self.refused((ins, 100, ()), -1, "names")
        for names in (None, True, False, "1", (), [], (1,)):
            self.refused((0, names, ()), -1, "names")

    def test_shape_ahead_of_ins_ahead_of_names_ahead_of_things(self):
        self.refused((4, 100, None), -1, "shape")
        self.refused((4, 100, (None,)), -1, "ins")
        self.refused((True, True, (None,)), -1, "ins")
        self.refused((3, 100, (None,)), -1, "names")
        self.refused((3, 2, (None,)), -1, "names")
        self.refused((3, 3, (None,)), 0, "shape")

    def test_run_refuses_the_same(self):
        for program, at, why in (
            (None, -1, "shape"),
            ((4, 4, ()), -1, "ins"),
            ((1, 0, ()), -1, "names"),
            (of_part(("num", 10007)), 1, "number"),
        ):
            with self.assertRaises(BadProgram) as caught:
                run(program, [], 0)
            self.assertEqual((caught.exception.at, caught.exception.why), (at, why))


class TestMany(Refused):
    def test_four_hundred_things_are_let_by(self):
        self.let_by(of_deeds(*says(200)))
        self.let_by(of_deeds(*says(198), ("say", ("add", ONE, ONE))))

    def test_a_deed_as_thing_400(self):
        self.refused(of_deeds(*says(201)), 400, "many")
        self.refused(of_deeds(*says(3000)), 400, "many")

    def test_a_part_as_thing_400(self):
        self.refused(of_deeds(*says(199), ("say", nots(1, ONE))), 400, "many")

    def test_things_within_bodies_count(self):
        within = tuple(says(150))
        self.let_by(of_deeds(("if", ONE, within, tuple(says(49)))))
        self.refused(of_deeds(("if", ONE, within, tuple(says(50)))), 400, "many")
        self.let_by(of_deeds(("while", ONE, tuple(says(199)))))
        self.refused(of_deeds(("while", ONE, tuple(says(200)))), 400, "many")

    def test_many_ahead_of_the_other_whys_of_the_same_thing(self):
        for bad in (None, ("say",), ("set", 0, ONE)):
            self.refused(of_deeds(*says(200), bad), 400, "many")
        for bad in (None, ("num", 10007), ("name", 0)):
            self.refused(of_deeds(*says(199), ("say", ("not", bad))), 400, "many")

    def test_many_ahead_of_deep(self):
        # Behind 194 says stand the things 388 to 399, and 400, the first that is within twelve others.
        self.refused(of_deeds(*says(194), ("say", nots(11, ONE))), 400, "many")

    def test_an_earlier_thing_ahead_of_many(self):
        self.refused(of_deeds(*says(199), None, *says(50)), 398, "shape")


class TestDeep(Refused):
    def test_within_eleven_others(self):
        self.let_by(of_part(nots(10, ONE)))

    def test_within_twelve_others(self):
        self.refused(of_part(nots(11, ONE)), 12, "deep")
        self.refused(of_part(nots(2000, ONE)), 12, "deep")

    def test_deeds_within_deeds(self):
        for outer in (lambda deed: ("while", ONE, (deed,)), lambda deed: ("if", ONE, (deed,), ()),
                      lambda deed: ("if", ONE, (), (deed,))):
            deed = SAY
            for _ in range(10):
                deed = outer(deed)
            self.let_by(of_deeds(deed))
            # Each of the eleven has its own part ahead; the last deed is the thing 22, its part the thing 23.
            self.refused(of_deeds(outer(deed)), 23, "deep")
            self.refused(of_deeds(outer(outer(deed))), 23, "deep")

    def test_a_body_is_no_thing(self):
        deed = ("if", nots(10, ONE), (), ())
        self.let_by(of_deeds(deed))
        self.let_by(of_deeds(deed, deed))

    def test_deep_ahead_of_the_other_whys_of_the_same_thing(self):
        for bad in (None, (), "num", ("num",), ("num", 10007), ("name", 0)):
            self.refused(of_part(nots(11, bad)), 12, "deep")
        self.refused(of_part(nots(10, None)), 11, "shape")
        self.refused(of_part(nots(10, ("num", 10007))), 11, "number")
        self.refused(of_part(nots(10, ("name", 0))), 11, "name")


class TestShape(Refused):
    NO_THINGS = (None, True, False, 0, 5, "", "say", "num", [], ["num", 1], ["say", ONE], ())

    def test_no_tuple(self):
        for bad in self.NO_THINGS:
            self.refused(of_deeds(bad), 0, "shape")
            self.refused(of_part(bad), 1, "shape")

    def test_no_tuple_in_the_place_of_any_thing(self):
        things = things_in(ALL_WORDS)
        self.assertEqual(len(things), 50)
        for at in range(len(things)):
            for bad in self.NO_THINGS:
                self.refused(with_thing(ALL_WORDS, at, bad), at, "shape")

    def test_another_word(self):
        for word in ("", "sey", "Say", "say ", "goto", "num", "add", None, 0, True, (), [], ["say"], ("say",)):
            self.refused(of_deeds((word, ONE)), 0, "shape")
        for word in ("", "nun", "Num", "less ", "say", "stop", "copy", "test", None, 0, True, (), [], ["not"]):
            self.refused(of_part((word, ONE)), 1, "shape")

    def test_a_part_in_the_place_of_a_deed_and_the_other_way_round(self):
        self.refused(of_deeds(ONE), 0, "shape")
        self.refused(of_deeds(("name", 0), names=1), 0, "shape")
        self.refused(of_deeds(("while", ONE, (("not", ONE),))), 2, "shape")
        self.refused(of_part(SAY), 1, "shape")
        self.refused(of_part(("not", ("if", ONE, (), ()))), 2, "shape")

    def test_another_count_behind_the_word(self):
        for at, thing in enumerate(things_in(ALL_WORDS)):
            self.refused(with_thing(ALL_WORDS, at, thing[:-1]), at, "shape")
            self.refused(with_thing(ALL_WORDS, at, thing + (thing[-1],)), at, "shape")
            self.refused(with_thing(ALL_WORDS, at, thing + (ONE,)), at, "shape")
            self.refused(with_thing(ALL_WORDS, at, thing[:1]), at, "shape")

    def test_each_word_with_its_count_is_let_by(self):
        for word in TWO_PARTS:
            self.let_by(of_part((word, ONE, ONE)))
            self.refused(of_part((word, ONE)), 1, "shape")
            self.refused(of_part((word, ONE, ONE, ONE)), 1, "shape")
        for word in ("not", "get"):
            self.let_by(of_part((word, ONE)))
            self.refused(of_part((word, ONE, ONE)), 1, "shape")
        self.let_by(of_part(("pick", ONE, ONE, ONE)))

    def test_another_thing_in_the_place_of_a_number(self):
        for bad in (None, True, False, "", "1", (), [], (1,), [1], ONE):
            self.refused(of_part(("num", bad)), 1, "shape")
            self.refused(of_part(("name", bad), names=5), 1, "shape")
            self.refused(of_deeds(("set", bad, ONE), names=5), 0, "shape")

    def test_another_thing_in_the_place_of_a_body(self):
        for bad in (None, True, False, 0, "", "say", [], [SAY]):
            self.refused(of_deeds(("while", ONE, bad)), 0, "shape")
            self.refused(of_deeds(("if", ONE, bad, ())), 0, "shape")
            self.refused(of_deeds(("if", ONE, (), bad)), 0, "shape")

    def test_a_thing_in_the_place_of_a_body(self):
        # A deed is a tuple, and so a body; the word in it is a thing that is no tuple.
        self.refused((0, 0, SAY), 0, "shape")
        self.refused(of_deeds(("while", ONE, SAY)), 2, "shape")
        self.refused(of_deeds(("if", ONE, SAY, ())), 2, "shape")
        self.refused(of_deeds(("if", ONE, (SAY,), SAY)), 4, "shape")
        self.refused(of_deeds(("while", ONE, ONE)), 2, "shape")

    def test_a_body_in_the_place_of_a_thing(self):
        self.refused(of_deeds((SAY,)), 0, "shape")
        self.refused(of_part((ONE,)), 1, "shape")
        self.refused(of_deeds(("if", (), (), ())), 1, "shape")

    def test_its_own_shape_ahead_of_what_is_within(self):
        self.refused(of_deeds(("if", None, [], ())), 0, "shape")
        self.refused(of_deeds(("if", None, (), [])), 0, "shape")
        self.refused(of_deeds(("set", None, None)), 0, "shape")


class TestNumber(Refused):
    def test_bounds(self):
        for n in (0, 1, 10006):
            self.let_by(of_part(("num", n)))
        for n in (-1, 10007, -10007, 10 ** 40):
            self.refused(of_part(("num", n)), 1, "number")

    def test_in_the_place_of_any_part(self):
        for at, thing in enumerate(things_in(ALL_WORDS)):
            if thing[0] in ("num", "name"):
                self.refused(with_thing(ALL_WORDS, at, ("num", 10007)), at, "number")


class TestName(Refused):
    def test_bounds(self):
        for names in (1, 2, 99):
            for name in (0, names - 1):
                self.let_by(of_part(("name", name), names=names))
                self.let_by(of_deeds(("set", name, ONE), names=names))
            for name in (-1, names, 10 ** 40):
                self.refused(of_part(("name", name), names=names), 1, "name")
                self.refused(of_deeds(("set", name, ONE), names=names), 0, "name")

    def test_no_names(self):
        self.refused(of_part(("name", 0)), 1, "name")
        self.refused(of_deeds(("set", 0, ONE)), 0, "name")

    def test_what_is_handed_has_names(self):
        self.let_by(of_deeds(("set", 0, ("name", 1)), ins=2, names=2))

    def test_in_the_place_of_any_part(self):
        for at, thing in enumerate(things_in(ALL_WORDS)):
            if thing[0] in ("num", "name"):
                self.refused(with_thing(ALL_WORDS, at, ("name", 4)), at, "name")


class TestFirst(Refused):
    """Where several things are wrong, the first one is told."""

    BAD = ((None, "shape"), (("num", 10007), "number"), (("name", 9), "name"))

    def test_of_two_parts_the_former(self):
        for one, why in self.BAD:
            for other, _ in self.BAD:
                for word in TWO_PARTS:
                    self.refused(of_part((word, one, other)), 2, why)
                self.refused(of_deeds(("put", one, other)), 1, why)
                self.refused(of_part(("pick", ONE, one, other)), 3, why)
                self.refused(of_deeds(("if", one, (("say", other),), (None,))), 1, why)
                self.refused(of_deeds(("if", ONE, (("say", one),), (("say", other),))), 3, why)
                self.refused(of_deeds(("while", one, (("say", other),))), 1, why)
                self.refused(of_deeds(("say", one), ("say", other)), 1, why)

    def test_a_thing_ahead_of_those_within_it(self):
        for bad, _ in self.BAD:
            self.refused(of_deeds(("set", 9, bad)), 0, "name")

    def test_deep_and_a_later_thing(self):
        self.refused(of_deeds(("say", nots(11, ONE)), None), 12, "deep")
        self.refused(of_deeds(None, ("say", nots(11, ONE))), 0, "shape")
        self.refused(of_part(("add", ("num", 10007), nots(11, ONE))), 2, "number")


if __name__ == "__main__":
    unittest.main()
