"""Promise 2: poke."""

import unittest

from calling import HUGE, LARGEST_WORD, WRONG_ADDRESSES, WRONG_WORDS, ask, new, peek, poke, told


class PokeTest(unittest.TestCase):
    def test_answers_nothing_more(self):
        self.assertEqual(ask(poke(5, 123)), [[0]])

    def test_the_word_becomes_v(self):
        for address in (0, 1, 39, 40, 1000, 1998, 1999):
            for word in (0, 1, -1, 10 ** 9, LARGEST_WORD, -LARGEST_WORD):
                with self.subTest(address=address, word=word):
                    self.assertEqual(ask(poke(address, word), peek(address)), [[0], [0, word]])

    def test_the_last_word_stays(self):
        given = ask(poke(40, 1), peek(40), poke(40, -2), peek(40), poke(40, 0), peek(40))
        self.assertEqual(given[1::2], [[0, 1], [0, -2], [0, 0]])

    def test_changes_no_other_word(self):
        for address in (0, 40, 1039, 1999):
            with self.subTest(address=address):
                others = [other for other in range(2000) if other != address]
                for begin in range(0, len(others), 250):
                    part = others[begin:begin + 250]
                    given = ask(poke(address, 77), *[peek(other) for other in part])
                    self.assertEqual(given, [[0]] + [[0, 0]] * len(part))

    def test_changes_nothing_else(self):
        self.assertEqual(ask(new(8), poke(8, 99), told())[2], [0, 0, 0, 8, 0, 0, 0])

    def test_refuses_an_address_that_is_none(self):
        for address in WRONG_ADDRESSES:
            for word in (0, 1, -LARGEST_WORD, LARGEST_WORD):
                with self.subTest(address=address, word=word):
                    self.assertEqual(ask(poke(address, word)), [[-1]])

    def test_refuses_what_is_no_word(self):
        for word in WRONG_WORDS:
            for address in (0, 1, 1999):
                with self.subTest(address=address, word=word):
                    self.assertEqual(ask(poke(address, word)), [[-1]])

    def test_refuses_both_wrong_once(self):
        for address in WRONG_ADDRESSES:
            for word in WRONG_WORDS:
                with self.subTest(address=address, word=word):
                    self.assertEqual(ask(poke(address, word)), [[-1]])

    def test_refused_word_leaves_the_machine_as_it_was(self):
        for word in WRONG_WORDS:
            with self.subTest(word=word):
                given = ask(new(11), poke(7, 70), poke(7, word), peek(7), told())
                self.assertEqual(given[2:], [[-1], [0, 70], [0, 0, 0, 11, 0, 0, 0]])

    def test_refused_address_leaves_the_machine_as_it_was(self):
        near = (0, 1, 2, 1998, 1999, HUGE % 2000, LARGEST_WORD % 2000)
        for address in WRONG_ADDRESSES:
            with self.subTest(address=address):
                given = ask(new(11), poke(address, 70), told(), *[peek(other) for other in near])
                self.assertEqual(given[1:], [[-1], [0, 0, 0, 11, 0, 0, 0]] + [[0, 0]] * len(near))


if __name__ == "__main__":
    unittest.main()
