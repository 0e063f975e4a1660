"""Promise 8: load."""

import unittest

from calling import (
    HUGE, LARGEST_LONG, LARGEST_WORD, LAST_TICK, WRONG_ADDRESSES, WRONG_TICKS, WRONG_WORDS, ask, drum, load, new, peek,
    poke, run, told, written)

FULL = [number for address in range(2000) for number in (address, LARGEST_WORD - address)]
VALUES = [0, 1, 12, 345, -6789, 1011]
# Where each value stands among the six, with what it may be and what it may not.
BOUNDS = (
    (0, (0, 1, 2, 3, 4, 5, 6), (-1, 7, HUGE, -HUGE)),
    (1, (0, 1), (-1, 2, HUGE, -HUGE)),
    (2, (0, 1, 39, 40, 1999), WRONG_ADDRESSES),
    (3, (0, 1, LAST_TICK - 1, LAST_TICK), WRONG_TICKS),
    (4, (0, LARGEST_LONG, -LARGEST_LONG), (LARGEST_LONG + 1, -LARGEST_LONG - 1, HUGE, -HUGE)),
    (5, (0, LARGEST_WORD, -LARGEST_WORD), WRONG_WORDS),
)
WRONG_FORMS = (
    [5], [5, 6, 7], [0, 1, 2, 3, 4],
    [5, 6, 5, 7], [5, 6, 4, 7], [1999, 1, 0, 1], [0, 1, 1, 1, 1, 1],
    [-1, 5], [2000, 5], [0, 1, 2000, 5], [-1, 5, 0, 1], [HUGE, 5], [-HUGE, 5],
    [5, 0], [0, 1, 5, 0], [5, 0, 6, 1], [0, 0],
    [5, LARGEST_WORD + 1], [5, -LARGEST_WORD - 1], [5, HUGE], [5, -HUGE], [0, 1, 1999, HUGE],
    FULL + [2000, 1], FULL + [1], FULL + [0, 1] * 50, [0] * 4100, [HUGE] * 4099,
)


def changed(at, value):
    values = list(VALUES)
    values[at] = value
    return values


class LoadTest(unittest.TestCase):
    def test_answers_nothing_more(self):
        self.assertEqual(ask(load(*VALUES, [5, 6])), [[0]])

    def test_the_machine_is_told_anew(self):
        given = ask(load(*VALUES, [5, 6, 1999, -7]), told(), drum(), peek(5), peek(1999), peek(6))
        self.assertEqual(given[1:], [[0] + VALUES, [0, 5, 6, 1999, -7], [0, 6], [0, -7], [0, 0]])

    def test_each_value_at_its_bounds(self):
        for at, granted, wrong in BOUNDS:
            for value in granted:
                with self.subTest(at=at, value=value):
                    self.assertEqual(ask(load(*changed(at, value)), told()), [[0], [0] + changed(at, value)])

    def test_the_empty_list(self):
        given = ask(poke(0, 5), poke(1999, 6), load(*VALUES), drum(), told())
        self.assertEqual(given[2:], [[0], [0], [0] + VALUES])

    def test_all_else_is_0(self):
        given = ask(load(numbers=FULL), load(numbers=[40, 2]), drum())
        self.assertEqual(given[1:], [[0], [0, 40, 2]])

    def test_a_full_drum(self):
        self.assertEqual(ask(load(numbers=FULL), drum()), [[0], [0] + FULL])

    def test_the_largest_words(self):
        numbers = [0, LARGEST_WORD, 1, -LARGEST_WORD, 1998, 1, 1999, -1]
        self.assertEqual(ask(load(numbers=numbers), drum())[1], [0] + numbers)

    def test_what_told_and_drum_answered(self):
        words = [0, written("LDA", 3, 5), 3, -17, 5, written("SHL", 19, 30), 30, written("STU", 1200, 41)]
        for orders in (0, 1, 2, 3, 4, 5):
            first = ask(load(numbers=words), run(orders), told(), drum())
            second = ask(new(9), poke(8, 8), load(*first[2][1:], first[3][1:]), told(), drum())
            self.assertEqual(second[2:], [[0]] + first[2:])

    def test_a_machine_that_was_stopped_runs_on(self):
        given = ask(run(1), told(), load(0, 0, 0, 3, 0, 0, [0, written("NOP", 0, 8)]), run(1), told())
        self.assertEqual(given[3:], [[0, 1, 0], [0, 0, 0, 8, 43, 0, 0]])

    def test_poke_and_new_behind_it(self):
        given = ask(load(*VALUES, [5, 6]), poke(7, 8), drum(), new(3), drum(), told())
        self.assertEqual(given[2:], [[0, 5, 6, 7, 8], [0], [0], [0, 0, 0, 3, 0, 0, 0]])


class RefusalTest(unittest.TestCase):
    BEFORE = [0, 1, 77, 88, -99, 111]

    def check_refused(self, call, number):
        words = [0, 5, 40, -6, 1999, 7]
        given = ask(load(*self.BEFORE, words), call, told(), drum())
        with self.subTest(call=call[:12]):
            self.assertEqual(given[1:], [[number], [0] + self.BEFORE, [0] + words])

    def test_values(self):
        for at, granted, wrong in BOUNDS:
            for value in wrong:
                self.check_refused(load(*changed(at, value), [5, 6]), -1)

    def test_forms(self):
        for numbers in WRONG_FORMS:
            self.check_refused(load(*VALUES, numbers), -6)

    def test_values_before_forms(self):
        for at, granted, wrong in BOUNDS:
            for numbers in WRONG_FORMS[:8]:
                self.check_refused(load(*changed(at, wrong[0]), numbers), -1)
                self.check_refused(load(*changed(at, wrong[1]), numbers), -1)

    def test_a_stopped_machine_stays_stopped(self):
        given = ask(run(1), load(7), load(0, numbers=[1]), run(1), told())
        self.assertEqual(given[1:], [[-1], [-6], [0, 0, 0], [0, 1, 0, 0, 3, 0, 0]])


if __name__ == "__main__":
    unittest.main()
