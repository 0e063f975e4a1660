"""Promise 5: the orders 00, 01, 30 to 32 and 50 to 71, each by itself."""

import unittest

from calling import LARGEST_LONG, LARGEST_WORD, written
from stepping import OrderCase, stepped

AT_ONCE = 43
LATE = 1962


class HaltAndNopTest(OrderCase):
    def test_hlt_stops(self):
        for data, following in ((0, 0), (777, 777), (2000, 2000), (9999, 9999)):
            word = written("HLT", data, following)
            after = stepped({5: word}, orders=10, n=5, t=7, a=-8, d=9, over=1, cards=[1] * 8)
            # Read at 45.
            self.assertEqual(after, {
                "state": 1, "over": 1, "n": 5, "t": 48, "a": -8, "d": 9,
                "begun": 1, "read": 0, "punched": [], "words": {5: word} if word else {}})

    def test_nop(self):
        for data in (0, 1999, 2000, 9999):
            self.check("NOP", data, {"a": -8, "d": 9, "over": 1}, {"t": 3})
            self.check("NOP", data, {"a": -8, "d": 9, "t": 1}, {"t": 43})


class StoreTest(OrderCase):
    def check_store(self, name, a, d, word):
        before = {"a": a, "d": d, "over": 1}
        self.check(name, AT_ONCE, before, {"t": 4}, {AT_ONCE: 66}, {AT_ONCE: word})
        self.check(name, LATE, before, {"t": 43}, {}, {LATE: word})

    def test_parts_of_a_long(self):
        for sign in (1, -1):
            self.check_store("STL", sign * 12345678901234567890, 5, sign * 1234567890)
            self.check_store("STU", sign * 12345678901234567890, 5, sign * 1234567890)
            self.check_store("STL", sign * 98765432100000000012, 5, sign * 12)
            self.check_store("STU", sign * 98765432100000000012, 5, sign * 9876543210)

    def test_a_part_that_is_0(self):
        for sign in (1, -1):
            self.check_store("STL", sign * 70000000000, 5, 0)
            self.check_store("STU", sign * 70000000000, 5, sign * 7)
            self.check_store("STL", sign * LARGEST_WORD, 5, sign * LARGEST_WORD)
            self.check_store("STU", sign * LARGEST_WORD, 5, 0)
        self.check_store("STL", 0, 5, 0)
        self.check_store("STU", 0, 5, 0)

    def test_the_largest_and_the_smallest_long(self):
        for sign in (1, -1):
            self.check_store("STL", sign * LARGEST_LONG, 5, sign * LARGEST_WORD)
            self.check_store("STU", sign * LARGEST_LONG, 5, sign * LARGEST_WORD)

    def test_std(self):
        for word in (0, 1, -1, LARGEST_WORD, -LARGEST_WORD):
            self.check_store("STD", 8, word, word)

    def test_first_and_last_address(self):
        self.check("STD", 1999, {"d": 4}, {"t": 40}, {}, {1999: 4})
        self.check("STD", 0, {"d": 4}, {"t": 41}, {}, {0: 4})


class BranchTest(OrderCase):
    def check_branch(self, name, before, taken, over_behind):
        changes = {"t": 4, "over": over_behind}
        if taken:
            changes["n"] = 1999
        self.check(name, 1999, before, changes)

    def test_bmi(self):
        for a in (-1, -LARGEST_LONG):
            self.check_branch("BMI", {"a": a, "over": 1}, True, 1)
        for a in (0, 1, LARGEST_LONG):
            self.check_branch("BMI", {"a": a, "d": -1}, False, 0)

    def test_bnz(self):
        for a in (-1, 1, LARGEST_LONG, -LARGEST_LONG, 10 ** 10):
            self.check_branch("BNZ", {"a": a, "over": 1}, True, 1)
        self.check_branch("BNZ", {"a": 0, "d": -1}, False, 0)

    def test_bov(self):
        self.check_branch("BOV", {"a": -3, "d": 4, "over": 1}, True, 0)
        self.check_branch("BOV", {"a": -3, "d": 4, "over": 0}, False, 0)

    def test_d_is_looked_at_though_not_gone_to(self):
        for name in ("BMI", "BNZ", "BOV"):
            after = stepped({0: written(name, 2000, 777)})
            self.assertEqual((after["state"], after["n"], after["t"]), (4, 0, 3))


class LookUpTest(OrderCase):
    def test_found_at_once(self):
        self.check("TLU", AT_ONCE, {"a": 9, "d": 50}, {"a": 0, "t": 5}, {AT_ONCE: 50})
        self.check("TLU", LATE, {"a": 9, "d": 50}, {"a": 0, "t": 44}, {LATE: 51})
        self.check("TLU", AT_ONCE, {"a": 9, "d": 0}, {"a": 0, "t": 5})

    def test_found_further_on(self):
        words = {43: 49, 44: -50, 45: 50, 46: 60}
        self.check("TLU", 43, {"a": 9, "d": 50}, {"a": 2, "t": 7}, words)
        self.check("TLU", 42, {"a": 9, "d": 50}, {"a": 3, "t": 47}, words)

    def test_below_0(self):
        words = {43: -7, 44: -6, 45: -5}
        self.check("TLU", 43, {"a": 9, "d": -6}, {"a": 1, "t": 6}, words)

    def test_the_first_not_the_least(self):
        self.check("TLU", 43, {"d": 5}, {"a": 1, "t": 6}, {44: LARGEST_WORD, 45: 5})

    def test_around_the_band(self):
        # From 78 on: 78, 79, 40, 41. Place 38 comes at 38.
        self.check("TLU", 78, {"d": 5}, {"a": 3, "t": 43}, {41: 5, 80: 6, 38: 6})
        self.check("TLU", 1999, {"d": 5}, {"a": 1, "t": 42}, {1960: 5})

    def test_found_last(self):
        # 77 is the last from 78 on, around the band.
        self.check("TLU", 78, {"d": 5, "a": 9}, {"a": 39, "t": 79}, {77: 5, 80: 6})
        self.check("TLU", 43, {"d": 5, "a": 9}, {"a": 39, "t": 44}, {42: 5})

    def test_not_found(self):
        words = {address: 4 for address in range(40, 80)}
        words.update({39: 5, 80: 5})
        for a in (9, -LARGEST_LONG):
            self.check("TLU", 43, {"d": 5, "a": a}, {"over": 1, "t": 44}, words)
            self.check("TLU", 42, {"d": 5, "a": a, "over": 1}, {"t": 83}, words)

    def test_over_stays_where_found(self):
        self.check("TLU", 43, {"over": 1, "d": 0}, {"a": 0, "t": 5})

    def test_the_largest_word(self):
        self.check("TLU", 43, {"d": LARGEST_WORD}, {"a": 1, "t": 6}, {43: LARGEST_WORD - 1, 44: LARGEST_WORD})
        self.check("TLU", 43, {"d": -LARGEST_WORD}, {"a": 0, "t": 5}, {43: -LARGEST_WORD})


class CardTest(OrderCase):
    CARD = [11, -12, 13, LARGEST_WORD, -LARGEST_WORD, 16, 17, 18]

    def test_rdc(self):
        stored = {100 + place: word for place, word in enumerate(self.CARD)}
        words = {99: 1, 108: 2, 103: 3}
        before = {"a": -8, "d": 9, "over": 1}
        self.check("RDC", 100, before, {"t": 63}, words, stored, self.CARD)
        self.check("RDC", 100, {"t": 1}, {"t": 103}, words, stored, self.CARD)

    def test_rdc_around_the_band(self):
        stored = dict(zip((1997, 1998, 1999, 1960, 1961, 1962, 1963, 1964), self.CARD))
        self.check("RDC", 1997, {}, {"t": 63}, {1965: 5, 1996: 6}, stored, self.CARD)
        stored = dict(zip((39, 0, 1, 2, 3, 4, 5, 6), self.CARD))
        self.check("RDC", 39, {"n": 50}, {"t": 73}, {40: 5, 38: 6}, stored, self.CARD)

    def test_rdc_up_to_the_bands_last_place(self):
        stored = dict(zip(range(72, 80), self.CARD))
        self.check("RDC", 72, {}, {"t": 63}, {80: 5, 40: 6}, stored, self.CARD)

    def test_rdc_of_noughts(self):
        self.check("RDC", 100, {}, {"t": 63}, {100: 5, 107: 6}, {100: 0, 107: 0}, [0] * 8)

    def test_pch(self):
        words = {100 + place: word for place, word in enumerate(self.CARD)}
        words.update({99: 5, 108: 6})
        self.check("PCH", 100, {"a": -8, "d": 9, "over": 1}, {"t": 63}, words, punched=self.CARD)
        self.check("PCH", 100, {"t": 1}, {"t": 103}, words, punched=self.CARD)

    def test_pch_around_the_band(self):
        words = dict(zip((1997, 1998, 1999, 1960, 1961, 1962, 1963, 1964), self.CARD))
        words.update({1996: 5, 1965: 6})
        self.check("PCH", 1997, {}, {"t": 63}, words, punched=self.CARD)
        words = dict(zip(range(72, 80), self.CARD))
        words.update({80: 5, 40: 6, 71: 7})
        self.check("PCH", 72, {}, {"t": 63}, words, punched=self.CARD)

    def test_pch_of_noughts(self):
        self.check("PCH", 100, {}, {"t": 63}, {}, punched=[0] * 8)


if __name__ == "__main__":
    unittest.main()
