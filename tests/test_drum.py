"""Promise 7: drum."""

import unittest

from calling import LARGEST_WORD, ask, drum, load, new, poke, run, told, written


class DrumTest(unittest.TestCase):
    def test_of_a_new_machine(self):
        self.assertEqual(ask(drum()), [[0]])
        self.assertEqual(ask(poke(5, 6), new(3), drum())[2], [0])

    def test_rising_addresses(self):
        given = ask(poke(1999, -4), poke(40, 5), poke(0, LARGEST_WORD), poke(39, -LARGEST_WORD), drum())
        self.assertEqual(given[4], [0, 0, LARGEST_WORD, 39, -LARGEST_WORD, 40, 5, 1999, -4])

    def test_a_word_that_is_0_again(self):
        self.assertEqual(ask(poke(7, 8), poke(9, 1), poke(7, 0), drum())[3], [0, 9, 1])

    def test_of_a_full_machine(self):
        numbers = [number for address in range(2000) for number in (address, (-1) ** address * (address + 1))]
        self.assertEqual(ask(load(numbers=numbers), drum()), [[0], [0] + numbers])

    def test_what_orders_stored(self):
        words = [0, written("LDA", 3, 5), 3, 17, 5, written("STL", 1200, 9)]
        self.assertEqual(ask(load(numbers=words), run(10), drum())[2], [0] + words + [1200, 17])

    def test_changes_nothing(self):
        before = [3, 1, 7, 8, -9, 10]
        given = ask(load(*before, [0, 5]), drum(), drum(), told())
        self.assertEqual(given[1:], [[0, 0, 5], [0, 0, 5], [0] + before])


if __name__ == "__main__":
    unittest.main()
