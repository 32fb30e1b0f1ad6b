"""Points [1] and [9]: what turned tells does what the program does, whatever is handed in and whatever fuel."""

import copy
import itertools
import unittest

from made import Made
from testedrows.errors import BadProgram
from testedrows.machine import run_rows
from testedrows.plain import run
from testedrows.rows import check_tested
from testedrows.turning import turned

ZERO, ONE = ("num", 0), ("num", 1)
OVER = ("over", ONE, ZERO)
CELL = ("get", ("num", 16))
A, B, C, D = [("name", name) for name in range(4)]
TWO_PARTS = ("add", "take", "times", "over", "rest", "less", "same", "and", "or")
WORTHS = (0, 1, 2, 15, 16, 10006)


def num(n):
    return ("num", n)


def say(n):
    return ("say", num(n))


def down(name):
    return ("set", name, ("take", ("name", name), ONE))


def things(held):
    """How many things there are in a thing, a body or a part."""
    if not isinstance(held, tuple):
        return 0
    own = 1 if held and isinstance(held[0], str) else 0
    return own + sum([things(inner) for inner in held])


def has_while(body):
    return "'while'" in repr(body)


class Turned(unittest.TestCase):
    def turned_well(self, program):
        tested = turned(program)
        check_tested(tested)
        ins, names, pieces = tested
        self.assertEqual((ins, names), program[:2])
        if not has_while(program[2]):
            self.assertEqual(len(pieces), 1)
            self.assertEqual({piece for _, piece in pieces[0][1]}, {-1})
        return tested

    def does_the_same(self, program, handed, fuels):
        """Tell the ends, by fuel."""
        tested = self.turned_well(program)
        ends = []
        for fuel in fuels:
            told = run(program, list(handed), fuel)
            self.assertEqual(run_rows(tested, list(handed), fuel), told, (program, handed, fuel))
            ends.append(told[1])
        return ends

    def always_the_same(self, *deeds, ins=0, names=4, fuels=(0, 1, 2, 3, 50), worths=WORTHS):
        ends = []
        for handed in itertools.product(worths, repeat=ins):
            ends += self.does_the_same((ins, names, deeds), handed, fuels)
        return ends

    def tells(self, deeds, said, end, handed=(), fuel=0):
        """Not by run: what is plainly to be told."""
        told = run_rows(turned((len(handed), 4, tuple(deeds))), list(handed), fuel)
        self.assertEqual(told[:2], (said, end), deeds)


class TestPlainWords(Turned):
    def test_no_deeds(self):
        for ins in range(4):
            for names in (ins, 99):
                self.does_the_same((ins, names, ()), [5] * ins, (0, 1000))

    def test_each_deed(self):
        self.always_the_same(("say", A), ("say", B), ("set", 1, A), ("say", B), ("set", 0, num(7)), ("say", A),
                             ("say", B), ins=2)
        self.always_the_same(("put", A, B), ("say", ("get", A)), ("say", ("get", num(2))), ins=2)
        self.always_the_same(("say", ONE), ("stop", A), ("say", ONE), ("stop", B), ins=2)
        self.tells([say(4), ("stop", A), say(5)], [4], ("worth", 9), [9])

    def test_each_part(self):
        for word in TWO_PARTS:
            within = (word, (word, A, num(3)), (word, B, A))
            self.always_the_same(say(4), ("say", (word, A, B)), say(5), ("say", within), ins=2)
        for part in (("not", A), ("not", ("not", A)), ("get", A), ("get", ("get", A)), num(0), num(10006), A):
            self.always_the_same(("put", num(2), num(3)), ("put", num(3), num(8)), ("say", part), ("stop", part), ins=1)
        self.always_the_same(("say", ("pick", A, B, C)), ("stop", ("pick", C, A, ("pick", B, C, num(7)))), ins=3)

    def test_parts_within_one_another(self):
        for one, other in itertools.product(TWO_PARTS, repeat=2):
            self.always_the_same(("set", 1, (one, (other, A, B), (other, B, num(2)))), ("say", B), ("say", A), ins=2)

    def test_names_are_read_ahead_of_being_set(self):
        self.always_the_same(("set", 0, ("add", A, A)), ("set", 1, ("pick", B, A, B)), ("set", 0, ("and", A, A)),
                             ("set", 2, ("or", C, ("take", B, A))), ("set", 3, ("not", D)),
                             *[("say", ("name", name)) for name in range(4)], ins=3)

    def test_all_names(self):
        deeds = [("set", name, ("add", ("name", (name * 7) % 99), num(name))) for name in range(99)]
        self.does_the_same((2, 99, tuple(deeds)), [3, 4], (0,))
        says = [("say", ("name", name)) for name in range(99)]
        self.does_the_same((2, 99, tuple(deeds[50:] + says)), [3, 4], (0,))
        self.does_the_same((2, 99, tuple(says)), [3, 4], (0,))


class TestUndone(Turned):
    def test_and_or_pick(self):
        for bad in (OVER, CELL):
            for part in (("and", A, bad), ("or", A, bad), ("pick", A, bad, ONE), ("pick", A, ONE, bad),
                         ("and", bad, A), ("or", bad, A), ("pick", bad, A, A),
                         ("and", A, ("or", B, bad)), ("or", A, ("and", B, bad)), ("and", ("or", A, B), bad),
                         ("or", ("and", A, B), bad), ("pick", ("and", A, B), ("pick", B, ONE, bad), ("or", A, bad))):
                for deed in (("say", part), ("set", 3, part), ("put", part, ONE), ("put", ONE, part), ("stop", part),
                             ("if", part, (say(3),), (say(4),))):
                    ends = self.always_the_same(say(1), deed, say(2), ("say", D), ins=2, fuels=(0,), worths=(0, 1, 7))
                    self.assertIn(("fault", "over" if bad == OVER else "cell"), ends)

    def test_plainly(self):
        for part, worth in ((("and", ZERO, OVER), 0), (("or", num(7), CELL), 1), (("and", num(7), num(9)), 1),
                            (("or", ZERO, num(9)), 1), (("pick", num(7), num(8), OVER), 8),
                            (("pick", ZERO, OVER, num(9)), 9)):
            self.tells([("say", part)], [worth], ("worth", 0))
        for part, fault in ((("and", ONE, OVER), "over"), (("or", ZERO, CELL), "cell"),
                            (("pick", ONE, CELL, ONE), "cell")):
            self.tells([say(4), ("say", part)], [4], ("fault", fault))

    def test_sides_that_are_gone_and_that_are_not(self):
        for bad in (("say", OVER), ("say", CELL), ("stop", num(9)), ("put", num(16), ONE), ("put", OVER, CELL),
                    ("set", 1, ("rest", ONE, ("get", ZERO))), ("stop", OVER)):
            self.always_the_same(say(1), ("if", A, (say(2), bad, say(3)), (say(4),)), say(5), ins=1)
            self.always_the_same(say(1), ("if", A, (say(2),), (say(4), bad, say(3))), say(5), ins=1)
            self.always_the_same(say(1), ("if", A, (("if", B, (), (bad,)),), (("if", B, (bad,), ()),)), say(5), ins=2)

    def test_two_faults_in_one_deed(self):
        for one, other in ((OVER, CELL), (CELL, OVER)):
            for word in TWO_PARTS:
                self.always_the_same(say(1), ("say", (word, one, other)))
                self.always_the_same(say(1), ("say", (word, one, ("pick", A, other, ONE))), ins=1)
            self.always_the_same(("put", one, other))
            self.always_the_same(("put", num(16), other))
            self.always_the_same(("put", num(16), ("pick", A, other, ONE)), ins=1)
            self.always_the_same(("say", ("get", one)), ("say", other))
            self.always_the_same(("say", ("pick", one, other, other)))
            self.always_the_same(("if", one, (("say", other),), (("say", other),)))
        self.tells([("put", num(16), OVER)], [], ("fault", "over"))
        self.tells([("say", ("over", CELL, ZERO))], [], ("fault", "cell"))


class TestIfs(Turned):
    def test_both_sides(self):
        self.always_the_same(("if", A, (say(1), ("set", 0, num(5))), (say(2), ("set", 0, num(6)))), ("say", A), ins=1)
        self.tells([("if", A, (say(1),), (say(2),)), say(3)], [1, 3], ("worth", 0), [7])
        self.tells([("if", A, (say(1),), (say(2),)), say(3)], [2, 3], ("worth", 0), [0])

    def test_a_side_that_writes_what_was_asked(self):
        self.always_the_same(("if", A, (("set", 0, ZERO), say(1)), (("set", 0, ONE), say(2))), ("say", A), ins=1)
        self.always_the_same(("if", ("get", ONE), (("put", ONE, ZERO), say(1)), (("put", ONE, ONE), say(2))),
                             ("if", ("get", ONE), (("put", ONE, ZERO), say(1)), (("put", ONE, ONE), say(2))))

    def test_empty_ones(self):
        for one, other in itertools.product(((), (say(1),)), repeat=2):
            self.always_the_same(("if", A, one, other), say(3), ins=1)
            self.always_the_same(("if", A, (("if", B, one, other),), (("if", B, other, one),)), say(3), ins=2)

    def test_within_one_another(self):
        def nest(deep):
            if deep == 0:
                return (("say", ("add", A, ("times", B, C))), ("set", 3, ("add", D, ONE)))
            return (("if", ("name", deep - 1), nest(deep - 1) + (say(deep),), (say(deep + 10),) + nest(deep - 1)),
                    ("say", D))

        self.always_the_same(*nest(3), ins=3, worths=(0, 1, 16))

    def test_the_part_does_more(self):
        for part in (("and", A, B), ("or", A, B), ("pick", A, B, C), ("not", A), ("less", A, B), ("same", A, B)):
            self.always_the_same(("if", part, (("say", part),), (("if", part, (say(8),), (say(9),)),)), ins=3,
                                 fuels=(0,))


class TestWhiles(Turned):
    def test_fuel_from_0_on(self):
        for many in (0, 1, 2, 7):
            deeds = (("set", 1, A), ("while", A, (("say", A), down(0), ("put", A, B))), ("say", num(77)))
            ends = self.does_the_same((1, 2, deeds), [many], range(many + 3))
            self.assertEqual(ends, [("long",)] * many + [("worth", 0)] * 3)

    def test_plainly(self):
        deeds = [("while", A, (("say", A), down(0))), say(77)]
        for many in (0, 1, 3):
            said = list(range(many, 0, -1))
            self.tells(deeds, said + [77], ("worth", 0), [many], many)
            for fuel in range(many):
                self.tells(deeds, said[:fuel], ("long",), [many], fuel)

    def test_fuel_up_to_1000(self):
        deeds = (("while", A, (down(0),)), ("say", num(77)))
        for many, fuel in itertools.product((999, 1000, 1001), repeat=2):
            if fuel <= 1000:
                self.does_the_same((1, 1, deeds), [many], (fuel,))

    def test_no_end(self):
        self.assertEqual(self.does_the_same((0, 0, (("while", ONE, ()),)), [], (0, 1, 5, 1000)), [("long",)] * 4)

    def test_none(self):
        self.always_the_same(say(1), ("while", ZERO, (("say", OVER),)), say(2), fuels=(0,))
        self.always_the_same(("while", ZERO, ()), fuels=(0,))

    def test_empty_bodies(self):
        self.always_the_same(("while", A, ()), say(2), ins=1)
        self.always_the_same(("while", A, (("while", A, ()),)), ins=1)
        self.always_the_same(("while", A, (("if", A, (), ()),)), ins=1)

    def test_the_part_fails(self):
        self.always_the_same(say(1), ("while", ("over", num(6), A), (down(0), ("say", A))), say(2), ins=1)
        self.always_the_same(say(1), ("while", ("not", ("get", A)), (("set", 0, ("add", A, ONE)),)), ins=1,
                             fuels=range(20))

    def test_the_part_does_more(self):
        for part in (("and", A, B), ("or", A, B), ("pick", A, B, C), ("and", A, ("over", num(9), B))):
            self.always_the_same(("while", part, (("say", part), down(0), ("if", B, (down(1),), ()))), ins=3,
                                 worths=(0, 1, 3), fuels=range(9))

    def test_stops_and_faults_within(self):
        for bad in (("stop", A), ("say", OVER), ("put", num(16), A)):
            self.always_the_same(("while", A, (say(1), bad, say(2))), say(3), ins=1)
            self.always_the_same(("while", A, (down(0), ("if", ("less", A, num(2)), (bad,), (say(1),)))), say(3), ins=1)
            self.always_the_same(("while", ONE, (down(0), ("if", A, (("if", B, (), (bad,)),), (bad,)))), ins=2,
                                 worths=(0, 1, 3))

    def test_behind_one_another(self):
        loop = ("while", A, (down(0), ("say", A)))
        self.always_the_same(loop, loop, ("set", 0, num(2)), loop, ("set", 0, B), loop, say(9), ins=2,
                             worths=(0, 1, 3), fuels=range(11))

    def test_within_one_another(self):
        inner = ("while", B, (down(1), ("say", B)))
        outer = ("while", A, (down(0), say(50), ("set", 1, C), inner, say(60)))
        self.always_the_same(outer, say(77), ins=3, worths=(0, 1, 3), fuels=range(16))
        self.always_the_same(("while", A, (inner, down(0), ("set", 1, C))), ins=3, worths=(0, 1, 3), fuels=range(16))
        third = ("while", A, (down(0), ("set", 1, num(2)), ("while", B, (down(1), ("set", 2, num(2)),
                                                                      ("while", C, (down(2), ("say", C)))))))
        self.always_the_same(third, ins=1, worths=(0, 1, 3), fuels=range(24))

    def test_within_ifs(self):
        loop = ("while", B, (down(1), ("say", B)))
        for one, other in itertools.product(((), (loop,), (say(1), loop, say(2)), (say(3),), (loop, loop),
                                             (("if", B, (loop,), (say(5),)), say(6))), repeat=2):
            self.always_the_same(("if", A, one, other), ("say", A), ("say", B), ins=2, worths=(0, 1, 3), fuels=range(5))

    def test_ifs_without_whiles_beside_ifs_with(self):
        plain = ("if", A, (say(1), ("set", 2, num(5))), (say(2), ("set", 2, num(6))))
        loop = ("while", B, (plain, down(1), ("say", C)))
        self.always_the_same(plain, ("if", A, (plain, loop, plain), (loop, ("if", C, (loop,), ()))), plain, ins=2,
                             worths=(0, 1, 3), fuels=range(5))

    def test_within_ifs_within_whiles(self):
        inner = ("while", B, (down(1), ("say", B)))
        body = (down(0), ("if", ("rest", A, num(2)), (("set", 1, num(2)), inner), (say(8), ("if", A, (), (inner,)))))
        self.always_the_same(("while", A, body), say(9), ins=2, worths=(0, 1, 4), fuels=range(13))

    def test_what_a_round_left_does_not_show_in_the_next(self):
        # and, or and pick are done one way in one round, the other way in the next.
        part = ("add", ("and", B, C), ("add", ("times", num(10), ("or", B, C)), ("pick", B, num(300), num(500))))
        body = (down(0), ("say", part), ("set", 1, ("not", B)), ("if", B, (("set", 2, ("not", C)),), (say(7),)))
        self.always_the_same(("while", A, body), ins=3, worths=(0, 1, 6), fuels=range(8))


def grown(word, many, leaf, deep=11):
    """A part of the word with many things in all, or fewer; it stands within one other."""
    behind = {"not": 1, "get": 1, "pick": 3}.get(word, 2)
    if many <= behind or deep == 1:
        return leaf
    left, held = many - 1, []
    for more in range(behind, 0, -1):
        held.append(grown(word, left // more, leaf, deep - 1))
        left -= things(held[-1])
    return (word, *held)


def filled(body, most=400):
    """The body with says behind it, so that there are as many things as there may be; one alone can't be filled."""
    left = most - things(body)
    return body + (("say", A),) * (left // 2 - left % 2) + ((("say", ("not", A)),) if left % 2 else ())


class TestLargest(Turned):
    def is_turned(self, body, handed=(1, 0, 2), fuels=(0, 1, 3, 1000)):
        self.assertEqual(things(body), 400)
        self.assertRaises(BadProgram, turned, (3, 99, body + (say(1),)))
        self.does_the_same((3, 99, body), handed, fuels)

    def test_as_many_parts_of_a_word(self):
        for word in TWO_PARTS + ("pick",):
            for leaf in (ZERO, ONE, ("name", 98), A):
                part = grown(word, 399, leaf)
                self.assertGreater(things(part), 390)
                self.is_turned(filled((("say", part),)))

    def test_many_of_each_deed(self):
        for deed in (("say", ONE), ("stop", ZERO), ("set", 98, ONE), ("put", ONE, ONE), ("if", ONE, (), ()),
                     ("if", ZERO, (), (say(4),)), ("while", ZERO, ()), ("while", C, (down(2),)),
                     ("if", A, (("while", ZERO, ()),), (("while", ZERO, ()),)), ("say", ("and", A, ONE)),
                     ("set", 97, ("or", B, C)), ("if", ("and", A, B), (("say", ("or", A, B)),), (say(2),))):
            self.is_turned(filled((deed,) * (397 // things(deed))))

    def test_as_many_whiles_as_there_may_be(self):
        for part in (ZERO, A, ("name", 98)):
            self.is_turned((("while", part, ()),) * 200, fuels=(0, 1))

    def test_as_many_whiles_within_one_another(self):
        nest = ()
        for _ in range(11):
            nest = (("while", B, nest),)
        self.is_turned(filled(nest * 18), handed=(1, 0, 2))
        self.is_turned(filled(nest * 18), handed=(1, 1, 2))

    def test_as_many_ifs_with_whiles_within_one_another(self):
        def nest(deep):
            if deep == 0:
                return (("while", C, (down(2),)),)
            return (("if", ("name", deep % 3), nest(deep - 1), nest(deep - 1)),)

        body = nest(5)
        for handed in itertools.product((0, 1), repeat=3):
            self.is_turned(filled(body), handed=handed)

    def test_as_deep_as_there_may_be(self):
        nots = ands = ors = picks = A
        for _ in range(10):
            nots, ands, ors, picks = ("not", nots), ("and", C, ands), ("or", ors, B), ("pick", B, ONE, picks)
        for part in (nots, ands, ors, picks):
            self.is_turned(filled((("say", part), ("stop", part))))
            self.assertRaises(BadProgram, turned, (3, 99, (("say", ("not", part)),)))

    def test_bodies_as_deep_as_there_may_be(self):
        for words in (("if",), ("while",), ("if", "while"), ("while", "if", "if")):
            nest = ()
            for at in range(11):
                word = words[at % len(words)]
                nest = (("if", A, nest, nest if things(nest) < 20 else ()),) if word == "if" else (("while", B, nest),)
            for handed in ((1, 0, 2), (0, 0, 2), (1, 1, 2)):
                self.is_turned(filled(nest), handed=handed, fuels=(0, 1, 20))

    def test_made_ones(self):
        made = Made(9)
        for _ in range(60):
            body = ()
            while things(body) < 340:
                deed = made.deed(4)
                if things(deed) <= 395 - things(body):
                    body += (deed,)
            for handed in ((0, 0, 0), (1, 16, 2)):
                self.is_turned(filled(body), handed, fuels=(0, 2, 9, 100))


class TestMade(Turned):
    def test_made_programs(self):
        made = Made(91)
        ends = []
        for _ in range(2000):
            ins = made.chance.randrange(4)
            handed = [made.chance.choice(WORTHS) for _ in range(ins)]
            ends += self.does_the_same((ins, 4, made.body(3)), handed, (0, 1, 2, 3, 5, 30))
        for end in (("long",), ("fault", "over"), ("fault", "cell"), ("worth", 0), ("worth", 1)):
            self.assertGreater(ends.count(end), 50)


class TestRefusals(unittest.TestCase):
    def test_what_is_no_program(self):
        for program, at, why in ((None, -1, "shape"), ((0, 0, []), -1, "shape"), ((4, 4, ()), -1, "ins"),
                                 ((True, 1, ()), -1, "ins"), ((1, 0, ()), -1, "names"), ((0, 0, (None,)), 0, "shape"),
                                 ((0, 0, (say(1), say(10007))), 3, "number"), ((0, 1, (("set", 1, ONE),)), 0, "name"),
                                 ((0, 0, (say(1),) * 201), 400, "many"), ((0, 0, [say(1)]), -1, "shape")):
            with self.assertRaises(BadProgram) as caught:
                turned(program)
            self.assertEqual((caught.exception.at, caught.exception.why), (at, why))

    def test_what_would_not_be_reached(self):
        self.assertRaises(BadProgram, turned, (0, 0, (("stop", ONE), ("while", ZERO, (None,)))))


class TestNothingIsChanged(unittest.TestCase):
    PROGRAM = (1, 2, (("while", A, (down(0), ("if", A, (("say", B),), (("say", ("and", A, B)),)))),))

    def test_what_is_handed_in(self):
        program = copy.deepcopy(self.PROGRAM)
        turned(program)
        self.assertEqual(program, self.PROGRAM)

    def test_asked_again(self):
        first = turned(self.PROGRAM)
        turned((0, 0, (say(1), ("while", ONE, ()))))
        self.assertRaises(BadProgram, turned, (0, 0, (None,)))
        self.assertEqual(turned(self.PROGRAM), first)

    def test_tuples_alone(self):
        def all_tuples(held):
            self.assertIn(type(held), (tuple, int, str))
            if isinstance(held, tuple):
                for inner in held:
                    all_tuples(inner)

        all_tuples(turned(self.PROGRAM))


if __name__ == "__main__":
    unittest.main()
