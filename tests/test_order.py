"""Promise 6: order."""

import unittest

from calling import CODES, HUGE, LARGEST_WORD, WRONG_WORDS, ask, drum, load, order, told


def written_out(word):
    answer = ask(order(word))[0]
    return "".join(chr(number) for number in answer[1:])


class OrderTest(unittest.TestCase):
    def test_each_name(self):
        for code, name in CODES.items():
            with self.subTest(code=code):
                self.assertEqual(written_out(code * 10 ** 8 + 12345678), f"{name} 1234 5678")

    def test_number_by_number(self):
        self.assertEqual(ask(order(1200450678)), [[0, 65, 68, 68, 32, 48, 48, 52, 53, 32, 48, 54, 55, 56]])

    def test_noughts_in_front(self):
        for word, text in ((1000000000, "LDA 0000 0000"), (1000010002, "LDA 0001 0002"), (6000120345, "TLU 0012 0345"),
                           (7100000001, "PCH 0000 0001"), (7100010000, "PCH 0001 0000"), (100000000, "NOP 0000 0000"),
                           (7199999999, "PCH 9999 9999"), (4020000000, "SHL 2000 0000")):
            with self.subTest(word=word):
                self.assertEqual(written_out(word), text)

    def test_below_ten_digits(self):
        for word, text in ((0, "HLT 0000 0000"), (1, "HLT 0000 0001"), (10000, "HLT 0001 0000"),
                           (99999999, "HLT 9999 9999"), (199999999, "NOP 9999 9999")):
            with self.subTest(word=word):
                self.assertEqual(written_out(word), text)

    def test_thirteen_bytes(self):
        for code in CODES:
            self.assertEqual(len(ask(order(code * 10 ** 8))[0]), 14)

    def test_no_such_code(self):
        for code in range(100):
            if code not in CODES:
                for rest in (0, 99999999):
                    self.assertEqual(ask(order(code * 10 ** 8 + rest)), [[-6]], (code, rest))
        self.assertEqual(ask(order(LARGEST_WORD)), [[-6]])

    def test_below_0(self):
        for word in (-1, -100000000, -1000000000, -LARGEST_WORD):
            with self.subTest(word=word):
                self.assertEqual(ask(order(word)), [[-6]])

    def test_no_word_before_that(self):
        for word in WRONG_WORDS + (10 ** 10 + 1000000000, -10 ** 10 - 1000000000):
            with self.subTest(word=word):
                self.assertEqual(ask(order(word)), [[-1]])

    def test_changes_nothing(self):
        before = [0, 1, 7, 8, -9, 10]
        for word in (0, 1000010002, -1, 200000000, HUGE):
            given = ask(load(*before, [0, 5, 1999, 6]), order(word), told(), drum())
            self.assertEqual(given[2:], [[0] + before, [0, 0, 5, 1999, 6]])


if __name__ == "__main__":
    unittest.main()
