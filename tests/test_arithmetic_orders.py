"""Promise 5: the orders 10 to 21, each by itself."""

import unittest

from calling import LARGEST_LONG, LARGEST_WORD
from stepping import OrderCase

# N and T are 0: the order is read at 0, taken apart at 3. Place 3 isn't waited for: then it's 4.
AT_ONCE = 43
# Place 2 has just passed, and comes at 42: then it's 43.
LATE = 1962


class LoadTest(OrderCase):
    def test_lda(self):
        self.check("LDA", AT_ONCE, {"a": 5, "d": 6}, {"a": 1234, "d": 1234, "t": 5}, {AT_ONCE: 1234})
        self.check("LDA", LATE, {"a": 5, "d": 6}, {"a": -1234, "d": -1234, "t": 44}, {LATE: -1234})
        self.check("LDA", AT_ONCE, {"a": LARGEST_LONG, "d": 6}, {"a": 0, "d": 0, "t": 5})

    def test_ldn(self):
        self.check("LDN", AT_ONCE, {"a": 5, "d": 6}, {"a": -1234, "d": 1234, "t": 5}, {AT_ONCE: 1234})
        self.check("LDN", LATE, {"a": 5, "d": 6}, {"a": 1234, "d": -1234, "t": 44}, {LATE: -1234})
        self.check("LDN", AT_ONCE, {"a": 5, "d": 6}, {"a": 0, "d": 0, "t": 5})

    def test_ldd(self):
        self.check("LDD", AT_ONCE, {"a": 5, "d": 6}, {"d": 1234, "t": 4}, {AT_ONCE: 1234})
        self.check("LDD", LATE, {"a": -5, "d": 6, "over": 1}, {"d": -1234, "t": 43}, {LATE: -1234})
        self.check("LDD", AT_ONCE, {"d": 6}, {"d": 0, "t": 4})

    def test_the_largest_and_the_smallest_word(self):
        for word in (LARGEST_WORD, -LARGEST_WORD):
            self.check("LDA", AT_ONCE, {}, {"a": word, "d": word, "t": 5}, {AT_ONCE: word})
            self.check("LDN", AT_ONCE, {}, {"a": -word, "d": word, "t": 5}, {AT_ONCE: word})
            self.check("LDD", AT_ONCE, {}, {"d": word, "t": 4}, {AT_ONCE: word})

    def test_an_order_that_loads_itself(self):
        self.check("LDA", 0, {}, {"a": 1000000777, "d": 1000000777, "t": 42})


class SumTest(OrderCase):
    def check_sum(self, name, a, word, total, over=0, over_before=0):
        before = {"a": a, "d": 99, "over": over_before}
        after = {"a": total, "d": word, "over": over}
        self.check(name, AT_ONCE, before, {**after, "t": 6}, {AT_ONCE: word})
        self.check(name, LATE, before, {**after, "t": 45}, {LATE: word})

    def test_add_and_sub(self):
        self.check_sum("ADD", 100, 23, 123)
        self.check_sum("ADD", 100, -123, -23)
        self.check_sum("ADD", -100, 100, 0)
        self.check_sum("SUB", 100, 23, 77)
        self.check_sum("SUB", 100, -23, 123)
        self.check_sum("SUB", -100, 23, -123)

    def test_adm_and_sbm_take_no_sign(self):
        for word in (23, -23):
            self.check_sum("ADM", 100, word, 123)
            self.check_sum("ADM", -100, word, -77)
            self.check_sum("SBM", 100, word, 77)
            self.check_sum("SBM", -100, word, -123)

    def test_adu_and_sbu_are_ten_digits_up(self):
        self.check_sum("ADU", 7, 23, 230000000007)
        self.check_sum("ADU", 7, -1, -9999999993)
        self.check_sum("SBU", 7, 23, -229999999993)
        self.check_sum("SBU", -7, -23, 229999999993)

    def test_over_stays(self):
        for name in ("ADD", "SUB", "ADM", "SBM", "ADU", "SBU"):
            self.check_sum(name, 5, 0, 5, over=1, over_before=1)

    def test_the_largest_long_still_fits(self):
        self.check_sum("ADD", LARGEST_LONG - 1, 1, LARGEST_LONG)
        self.check_sum("SUB", 1 - LARGEST_LONG, 1, -LARGEST_LONG)
        self.check_sum("ADM", LARGEST_LONG - 1, -1, LARGEST_LONG)
        self.check_sum("SBM", 1 - LARGEST_LONG, -1, -LARGEST_LONG)
        self.check_sum("ADU", LARGEST_WORD, LARGEST_WORD, LARGEST_LONG)
        self.check_sum("SBU", -LARGEST_WORD, LARGEST_WORD, -LARGEST_LONG)

    def test_what_does_not_fit_with_all_lower_digits_0(self):
        self.check_sum("ADD", LARGEST_LONG, 1, 0, over=1)
        self.check_sum("ADD", -LARGEST_LONG, -1, 0, over=1)
        self.check_sum("SUB", LARGEST_LONG, -1, 0, over=1)
        self.check_sum("SUB", -LARGEST_LONG, 1, 0, over=1)
        self.check_sum("ADM", LARGEST_LONG, -1, 0, over=1)
        self.check_sum("SBM", -LARGEST_LONG, 1, 0, over=1)
        self.check_sum("ADU", 10 ** 19 * 9, 10 ** 9, 0, over=1)
        self.check_sum("SBU", -9 * 10 ** 19, 10 ** 9, 0, over=1)

    def test_what_does_not_fit_keeps_sign_and_lower_digits(self):
        self.check_sum("ADD", LARGEST_LONG, 6, 5, over=1)
        self.check_sum("ADD", -LARGEST_LONG, -6, -5, over=1)
        self.check_sum("SUB", LARGEST_LONG, -LARGEST_WORD, 9999999998, over=1)
        self.check_sum("SUB", -LARGEST_LONG, LARGEST_WORD, -9999999998, over=1)
        self.check_sum("ADM", LARGEST_LONG, -LARGEST_WORD, 9999999998, over=1)
        self.check_sum("SBM", -LARGEST_LONG, -LARGEST_WORD, -9999999998, over=1)
        self.check_sum("ADU", LARGEST_LONG, LARGEST_WORD, 99999999989999999999, over=1)
        self.check_sum("SBU", -LARGEST_LONG, LARGEST_WORD, -99999999989999999999, over=1)
        self.check_sum("SBU", LARGEST_LONG, -1, 9999999999, over=1)


class MultiplyTest(OrderCase):
    def check_product(self, a, word, product, ticks):
        before = {"a": a, "d": 99}
        self.check("MUL", AT_ONCE, before, {"a": product, "d": word, "t": 4 + ticks}, {AT_ONCE: word})
        self.check("MUL", LATE, before, {"a": product, "d": word, "t": 43 + ticks}, {LATE: word})

    def test_signs(self):
        # The digits of 103 are 4 together: 4 and twice 4.
        self.check_product(12, 103, 1236, 12)
        self.check_product(-12, 103, -1236, 12)
        self.check_product(12, -103, -1236, 12)
        self.check_product(-12, -103, 1236, 12)

    def test_the_lower_word_alone(self):
        self.check_product(70000000012, 2, 24, 8)
        self.check_product(-70000000012, 2, -24, 8)
        self.check_product(70000000000, 2, 0, 8)
        self.check_product(-70000000000, 2, 0, 8)

    def test_0(self):
        self.check_product(12, 0, 0, 4)
        self.check_product(0, 12, 0, 10)

    def test_the_largest_product(self):
        self.check_product(LARGEST_LONG, LARGEST_WORD, 99999999980000000001, 184)
        self.check_product(-LARGEST_LONG, LARGEST_WORD, -99999999980000000001, 184)
        self.check_product(LARGEST_WORD, -LARGEST_WORD, -99999999980000000001, 184)

    def test_over_stays(self):
        self.check("MUL", AT_ONCE, {"a": 3, "over": 1}, {"a": 30, "d": 10, "t": 10}, {AT_ONCE: 10})


class DivideTest(OrderCase):
    def check_quotient(self, a, word, quotient, remainder, ticks):
        before = {"a": a, "d": 99}
        after = {"a": quotient, "d": remainder}
        self.check("DIV", AT_ONCE, before, {**after, "t": 4 + ticks}, {AT_ONCE: word})
        self.check("DIV", LATE, before, {**after, "t": 43 + ticks}, {LATE: word})

    def check_over(self, a, word):
        before = {"a": a, "d": 99}
        self.check("DIV", AT_ONCE, before, {"over": 1, "d": word, "t": 10}, {AT_ONCE: word})
        self.check("DIV", LATE, before, {"over": 1, "d": word, "t": 49}, {LATE: word})

    def test_each_sign_goes_toward_0(self):
        # The digits of 14 are 5 together: 6 and twice 5.
        self.check_quotient(100, 7, 14, 2, 16)
        self.check_quotient(-100, 7, -14, -2, 16)
        self.check_quotient(100, -7, -14, 2, 16)
        self.check_quotient(-100, -7, 14, -2, 16)

    def test_without_a_remainder(self):
        self.check_quotient(98, 7, 14, 0, 16)
        self.check_quotient(-98, 7, -14, 0, 16)

    def test_a_quotient_of_0(self):
        self.check_quotient(6, 7, 0, 6, 6)
        self.check_quotient(-6, 7, 0, -6, 6)
        self.check_quotient(6, -7, 0, 6, 6)
        self.check_quotient(0, -7, 0, 0, 6)

    def test_by_0(self):
        for a in (0, 1, -1, LARGEST_LONG, -LARGEST_LONG):
            self.check_over(a, 0)

    def test_at_the_bound(self):
        for a in (70000000000, 70000000001, LARGEST_LONG):
            for word in (7, -7):
                self.check_over(a, word)
                self.check_over(-a, word)

    def test_next_to_the_bound(self):
        # Ten nines: 6 and twice 90.
        self.check_quotient(69999999999, 7, 9999999999, 6, 186)
        self.check_quotient(-69999999999, 7, -9999999999, -6, 186)
        self.check_quotient(69999999999, -7, -9999999999, 6, 186)
        self.check_quotient(-69999999999, -7, 9999999999, -6, 186)

    def test_the_largest_word(self):
        self.check_over(LARGEST_WORD * 10 ** 10, LARGEST_WORD)
        self.check_over(LARGEST_LONG, LARGEST_WORD)
        self.check_over(-LARGEST_LONG, -LARGEST_WORD)
        self.check_quotient(LARGEST_WORD * 10 ** 10 - 1, LARGEST_WORD, 9999999999, 9999999998, 186)
        self.check_quotient(1 - LARGEST_WORD * 10 ** 10, LARGEST_WORD, -9999999999, -9999999998, 186)

    def test_over_stays(self):
        before = {"a": 9, "over": 1}
        self.check("DIV", AT_ONCE, before, {"a": 2, "d": 1, "t": 14}, {AT_ONCE: 4})
        self.check("DIV", AT_ONCE, before, {"d": 0, "t": 10})


if __name__ == "__main__":
    unittest.main()
