import unittest

from partsmet.basics import is_count, is_integer
from tests.samples import ODD_VALUES

NO_NUMBERS = [value for value in ODD_VALUES if value.__class__ is not int] + [[0], (0,), [1, 2], "0", "12", b"1"]


class Judges(unittest.TestCase):
    def check(self, judge, answer, values):
        for value in values:
            self.assertIs(judge(value), answer, value)
            self.assertIs(judge(value=value), answer, value)

    def test_integers(self):
        self.check(is_integer, True, [0, 1, -1, 7, 999999, -999999, 10**29, -(10**29)])

    def test_no_integers(self):
        self.check(is_integer, False, NO_NUMBERS)

    def test_counts(self):
        self.check(is_count, True, [0, 1, 2, 999999, 10**29])

    def test_no_counts(self):
        self.check(is_count, False, NO_NUMBERS + [-1, -2, -999999, -(10**29)])

    def test_bools_are_no_numbers(self):
        self.check(is_integer, False, [True, False])
        self.check(is_count, False, [True, False])


if __name__ == "__main__":
    unittest.main()
