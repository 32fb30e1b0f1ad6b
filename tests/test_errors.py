"""The interface of testedrows/errors.py, and the order of refusals."""

import unittest

from testedrows import errors
from testedrows.plain import run

NAMES = ("BadProgram", "BadTested", "BadHanded", "BadFuel", "BadWidth", "BadBeats", "NotOne", "TooMany", "BadText")
MADE = {
    "BadProgram": lambda: errors.BadProgram(3, "shape"),
    "BadTested": lambda: errors.BadTested(2, 7),
    "BadText": lambda: errors.BadText(5),
}


def classes():
    return [getattr(errors, name) for name in NAMES]


class TestErrors(unittest.TestCase):
    def test_any_refusal_is_a_value_error(self):
        self.assertEqual(errors.RowsError.__bases__, (ValueError,))

    def test_each_is_a_rows_error_of_its_own(self):
        for one in classes():
            self.assertEqual(one.__bases__, (errors.RowsError,))
            self.assertTrue(issubclass(one, ValueError))

    def test_none_is_under_another_one(self):
        for one in classes():
            for other in classes():
                self.assertEqual(issubclass(one, other), one is other)

    def test_fields_are_set_when_made(self):
        bad = MADE["BadProgram"]()
        self.assertEqual((bad.at, bad.why), (3, "shape"))
        bad = MADE["BadTested"]()
        self.assertEqual((bad.piece, bad.row), (2, 7))
        self.assertEqual(MADE["BadText"]().place, 5)

    def test_those_without_fields_are_made_of_nothing(self):
        for name in NAMES:
            if name not in MADE:
                self.assertIsInstance(getattr(errors, name)(), errors.RowsError)


class TestOrder(unittest.TestCase):
    """What is handed in first is refused first."""

    GOOD = (1, 1, ())

    def test_program_ahead_of_handed_and_fuel(self):
        for handed in ([], [True], [10007]):
            for fuel in (-1, None):
                with self.assertRaises(errors.BadProgram) as caught:
                    run((1, 1, (None,)), handed, fuel)
                self.assertEqual((caught.exception.at, caught.exception.why), (0, "shape"))

    def test_program_ahead_of_handed_alone(self):
        self.assertRaises(errors.BadProgram, run, (1, 1, (None,)), [], 0)

    def test_program_ahead_of_fuel_alone(self):
        self.assertRaises(errors.BadProgram, run, (1, 1, (None,)), [0], 1001)

    def test_handed_ahead_of_fuel(self):
        for handed in ([], [0, 0], [10007], [None]):
            for fuel in (-1, 1001, None, True):
                self.assertRaises(errors.BadHanded, run, self.GOOD, handed, fuel)

    def test_fuel_last(self):
        self.assertRaises(errors.BadFuel, run, self.GOOD, [0], 1001)

    def test_refused_ahead_of_what_the_program_does(self):
        faulty = (0, 0, (("say", ("over", ("num", 1), ("num", 0))),))
        self.assertRaises(errors.BadHanded, run, faulty, [1], 0)
        self.assertRaises(errors.BadFuel, run, faulty, [], -1)


if __name__ == "__main__":
    unittest.main()
