"""Promise 3: peek."""

import unittest

from calling import LARGEST_WORD, WRONG_ADDRESSES, ask, new, peek, poke, told


class PeekTest(unittest.TestCase):
    def test_a_word_that_was_not_poked_is_0(self):
        for address in (0, 1, 39, 40, 1999):
            with self.subTest(address=address):
                self.assertEqual(ask(peek(address)), [[0, 0]])

    def test_each_address_has_its_own_word(self):
        for begin in range(0, 2000, 100):
            addresses = range(begin, begin + 100)
            pokes = [poke(address, 3 * address - 2500) for address in addresses]
            given = ask(*pokes, *[peek(address) for address in addresses])
            self.assertEqual(given[100:], [[0, 3 * address - 2500] for address in addresses])

    def test_the_edges_of_drum_and_word(self):
        given = ask(poke(0, -LARGEST_WORD), poke(1999, LARGEST_WORD), peek(1999), peek(0))
        self.assertEqual(given[2:], [[0, LARGEST_WORD], [0, -LARGEST_WORD]])

    def test_changes_nothing(self):
        given = ask(new(4), poke(4, 44), peek(4), peek(4), peek(5), told(), peek(4))
        self.assertEqual(given[2:], [[0, 44], [0, 44], [0, 0], [0, 0, 0, 4, 0, 0, 0], [0, 44]])

    def test_refuses_an_address_that_is_none(self):
        for address in WRONG_ADDRESSES:
            with self.subTest(address=address):
                self.assertEqual(ask(poke(0, 5), poke(1999, 6), peek(address))[2], [-1])

    def test_refused_leaves_the_machine_as_it_was(self):
        for address in WRONG_ADDRESSES:
            with self.subTest(address=address):
                given = ask(new(2), poke(0, 5), poke(1999, 6), peek(address), told(), peek(0), peek(1999))
                self.assertEqual(given[3:], [[-1], [0, 0, 0, 2, 0, 0, 0], [0, 5], [0, 6]])


if __name__ == "__main__":
    unittest.main()
