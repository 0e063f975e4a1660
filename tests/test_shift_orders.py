"""Promise 5: the orders 40 to 43, each by itself."""

import unittest

from calling import LARGEST_LONG
from stepping import OrderCase, stepped


class ShiftLeftTest(OrderCase):
    def check_left(self, a, by, result, over=0):
        self.check("SHL", by, {"a": a, "d": 9}, {"a": result, "over": over, "t": 5 + by})

    def test_ordinary(self):
        self.check_left(123, 2, 12300)
        self.check_left(-123, 2, -12300)
        self.check_left(0, 7, 0)

    def test_by_0(self):
        for a in (0, 1, -1, LARGEST_LONG, -LARGEST_LONG):
            self.check_left(a, 0, a)

    def test_the_last_that_fits(self):
        self.check_left(9, 19, 90000000000000000000)
        self.check_left(-9, 19, -90000000000000000000)
        self.check_left(LARGEST_LONG // 10, 1, LARGEST_LONG - 9)
        self.check_left(0, 20, 0)

    def test_what_does_not_fit(self):
        self.check_left(12, 19, 20000000000000000000, over=1)
        self.check_left(-12, 19, -20000000000000000000, over=1)
        self.check_left(LARGEST_LONG, 1, LARGEST_LONG - 9, over=1)
        self.check_left(-LARGEST_LONG, 1, 9 - LARGEST_LONG, over=1)

    def test_what_does_not_fit_with_all_lower_digits_0(self):
        for a in (10 ** 19, -10 ** 19):
            self.check_left(a, 1, 0, over=1)
        for a in (1, -1, 10, LARGEST_LONG, -LARGEST_LONG):
            self.check_left(a, 20, 0, over=1)

    def test_over_stays(self):
        self.check("SHL", 1, {"a": 4, "over": 1}, {"a": 40, "t": 6})


class ShiftRightTest(OrderCase):
    def check_right(self, a, by, result, rounded):
        self.check("SHR", by, {"a": a, "d": 9}, {"a": result, "t": 5 + by})
        self.check("SRR", by, {"a": a, "d": 9}, {"a": rounded, "t": 5 + by})

    def test_ordinary(self):
        self.check_right(12345, 2, 123, 123)
        self.check_right(-12345, 2, -123, -123)
        self.check_right(12367, 2, 123, 124)
        self.check_right(-12367, 2, -123, -124)
        self.check_right(0, 5, 0, 0)

    def test_halves(self):
        self.check_right(5, 1, 0, 1)
        self.check_right(-5, 1, 0, -1)
        self.check_right(15, 1, 1, 2)
        self.check_right(-15, 1, -1, -2)
        self.check_right(25, 1, 2, 3)
        self.check_right(-25, 1, -2, -3)
        self.check_right(2450, 2, 24, 25)
        self.check_right(-2450, 2, -24, -25)

    def test_next_to_halves(self):
        self.check_right(4, 1, 0, 0)
        self.check_right(-4, 1, 0, 0)
        self.check_right(6, 1, 0, 1)
        self.check_right(-6, 1, 0, -1)
        self.check_right(2449, 2, 24, 24)
        self.check_right(-2449, 2, -24, -24)
        self.check_right(2451, 2, 24, 25)
        self.check_right(-2451, 2, -24, -25)

    def test_by_0(self):
        for a in (0, 1, -1, 5, -5, LARGEST_LONG, -LARGEST_LONG):
            self.check_right(a, 0, a, a)

    def test_by_20(self):
        half = 5 * 10 ** 19
        self.check_right(LARGEST_LONG, 20, 0, 1)
        self.check_right(-LARGEST_LONG, 20, 0, -1)
        self.check_right(half, 20, 0, 1)
        self.check_right(-half, 20, 0, -1)
        self.check_right(half - 1, 20, 0, 0)
        self.check_right(1 - half, 20, 0, 0)

    def test_by_19(self):
        self.check_right(LARGEST_LONG, 19, 9, 10)
        self.check_right(-LARGEST_LONG, 19, -9, -10)

    def test_over_stays(self):
        self.check("SHR", 1, {"a": 40, "over": 1}, {"a": 4, "t": 6})
        self.check("SRR", 1, {"a": 40, "over": 1}, {"a": 4, "t": 6})


class BoundTest(OrderCase):
    def test_by_21(self):
        for code in (40, 41, 42):
            word = code * 10 ** 8 + 21 * 10 ** 4 + 777
            after = stepped({0: word}, a=5, d=6)
            wanted = {"state": 5, "over": 0, "n": 0, "t": 3, "a": 5, "d": 6}
            self.assertEqual({name: after[name] for name in wanted}, wanted)


class ShiftAndCountTest(OrderCase):
    def check_count(self, a, count, result):
        for data in (0, 21, 9999):
            self.check("SCT", data, {"a": a, "d": 99}, {"a": result, "d": count, "t": 5 + count})

    def test_ordinary(self):
        self.check_count(123, 17, 12300000000000000000)
        self.check_count(-123, 17, -12300000000000000000)

    def test_0(self):
        self.check_count(0, 20, 0)

    def test_one_digit(self):
        self.check_count(1, 19, 10 ** 19)
        self.check_count(-1, 19, -10 ** 19)
        self.check_count(9, 19, 9 * 10 ** 19)

    def test_all_twenty_digits(self):
        for a in (10 ** 19, -10 ** 19, LARGEST_LONG, -LARGEST_LONG):
            self.check_count(a, 0, a)
        self.check_count(10 ** 19 - 1, 1, LARGEST_LONG - 9)
        self.check_count(1 - 10 ** 19, 1, 9 - LARGEST_LONG)

    def test_over_stays(self):
        self.check("SCT", 0, {"a": 7 * 10 ** 18, "over": 1}, {"a": 7 * 10 ** 19, "d": 1, "t": 6})


if __name__ == "__main__":
    unittest.main()
