"""The interface: how calls and answers lie in their lists, and what is kept."""

import contextlib
import io
import itertools
import sys
import unittest

from calling import (
    HUGE, LARGEST_WORD, LAST_TICK, WRONG_ADDRESSES, WRONG_WORDS, drum, line, load, new, order, peek, poke, run,
    taken_apart, told, written)
from turndrum.store import answers

EDGE_CALLS = (
    new(0), new(1999), new(-1), new(2000),
    poke(0, 1), poke(0, LARGEST_WORD), poke(1999, -LARGEST_WORD), poke(1999, 0),
    poke(0, LARGEST_WORD + 1), poke(1999, -LARGEST_WORD - 1), poke(-1, 2), poke(2000, 2), poke(HUGE, -HUGE),
    peek(0), peek(1999), peek(-1), peek(2000),
    told(),
)

# A program that reads a card, punches it and stores a word; and each call refused and granted.
MIXED_CALLS = (
    load(0, 1, 0, 7, -8, 9, [0, written("RDC", 80, 3), 3, written("PCH", 80, 6), 6, written("STD", 1999, 9)]),
    run(3, LAST_TICK, list(range(8, 24))), drum(), told(), order(written("STD", 1999, 9)), order(-1), order(HUGE),
    run(1, 0, [4, 4, 4]), run(10001), load(7), load(0, numbers=[7, 7, 7]), run(5), run(5), told(),
    load(numbers=[]), drum(), new(1999), poke(1999, 1), drum(), peek(1999), told(),
)


def expected_one(kept, call):
    """A second, slower telling of the promises: kept has "n" and the poked words by address."""
    if call[0] == 4:
        return [0, 0, 0, kept["n"], 0, 0, 0]
    if call[1] in WRONG_ADDRESSES or (call[0] == 2 and call[2] in WRONG_WORDS):
        return [-1]
    if call[0] == 3:
        return [0, kept.get(call[1], 0)]
    if call[0] == 2:
        kept[call[1]] = call[2]
        return [0]
    kept.clear()
    kept["n"] = call[1]
    return [0]


def expected(calls):
    kept = {"n": 0}
    return [expected_one(kept, call) for call in calls]


class FormTest(unittest.TestCase):
    def test_each_answer_has_its_count_before_it(self):
        self.assertEqual(answers([1, 7]), [1, 0])
        self.assertEqual(answers([2, 7, 8]), [1, 0])
        self.assertEqual(answers([3, 7]), [2, 0, 0])
        self.assertEqual(answers([4]), [7, 0, 0, 0, 0, 0, 0, 0])

    def test_a_refusal_is_its_number_alone(self):
        for wrong in (-1, 2000, -HUGE, HUGE):
            with self.subTest(wrong=wrong):
                self.assertEqual(answers([1, wrong]), [1, -1])
                self.assertEqual(answers([2, wrong, 0]), [1, -1])
                self.assertEqual(answers([3, wrong]), [1, -1])
        self.assertEqual(answers([2, 0, -HUGE]), [1, -1])
        self.assertEqual(answers([2, 0, HUGE]), [1, -1])

    def test_answers_lie_one_behind_another(self):
        calls = [3, 9, 2, 9, -5, 4, 3, 9, 1, 2000, 1, 12, 4, 3, 9, 2, -1, 1]
        self.assertEqual(answers(calls), [
            2, 0, 0,
            1, 0,
            7, 0, 0, 0, 0, 0, 0, 0,
            2, 0, -5,
            1, -1,
            1, 0,
            7, 0, 0, 0, 12, 0, 0, 0,
            2, 0, 0,
            1, -1,
        ])

    def test_counts_of_the_calls_with_lists(self):
        self.assertEqual(answers([5, 0, 0, 0]), [3, 0, 0, 0])
        self.assertEqual(answers([5, 1, 1, 0]), [3, 0, 1, 0])
        self.assertEqual(answers([6, 0]), [14, 0, 72, 76, 84, 32, 48, 48, 48, 48, 32, 48, 48, 48, 48])
        self.assertEqual(answers([7]), [1, 0])
        self.assertEqual(answers([8, 0, 0, 0, 0, 0, 0, 0]), [1, 0])
        self.assertEqual(answers([8, 0, 0, 0, 0, 0, 0, 2, 5, 6, 7]), [1, 0, 3, 0, 5, 6])
        self.assertEqual(answers([2, 0, 7100000000, 5, 2, 999, 0]), [
            1, 0, 19, 0, 2, 0, 7100000000, 0, 0, 0, 0, 0, 0, 0, 7100000000, 0, 0, 0, 0, 0, 0, 0])

    def test_refusals_of_the_calls_with_lists(self):
        self.assertEqual(answers([5, -1, 0, 0]), [1, -1])
        self.assertEqual(answers([5, 0, 0, 3, 4, 4, 4]), [1, -1])
        self.assertEqual(answers([6, -1, 6, HUGE]), [1, -6, 1, -1])
        self.assertEqual(answers([8, 0, 0, 0, 0, 0, HUGE, 1, 4]), [1, -1])
        self.assertEqual(answers([8, 0, 0, 0, 0, 0, 0, 1, 4]), [1, -6])

    def test_lists_one_behind_another(self):
        calls = [
            8, 0, 0, 3, 0, 0, 0, 4, 3, 7000800005, 5, 7100800009,
            5, 1, 100, 8, 1, 2, 3, 4, 5, 6, 7, 8,
            5, 1, 100, 0,
            5, 1, 100, 8, 1, 1, 1, 1, 1, 1, 1, 1,
            7,
            8, 1, 1, 1, 1, 1, 1, 0,
            4,
            8, 0, 0, 0, 0, 0, 0, 3, 7, 7, 7,
            7,
        ]
        self.assertEqual(answers(calls), [
            1, 0,
            3, 0, 1, 1,
            11, 0, 1, 0, 1, 2, 3, 4, 5, 6, 7, 8,
            3, 0, 0, 0,
            21, 0, 3, 7000800005, 5, 7100800009, 80, 1, 81, 2, 82, 3, 83, 4, 84, 5, 85, 6, 86, 7, 87, 8,
            1, 0,
            7, 0, 1, 1, 1, 1, 1, 1,
            1, -6,
            1, 0,
        ])

    def test_lists_that_look_like_calls(self):
        self.assertEqual(answers([5, 0, 4, 8, 7, 7, 7, 7, 7, 7, 7, 7, 4]), [3, 0, 0, 0, 7, 0, 0, 0, 0, 0, 0, 0])
        self.assertEqual(answers([8, 1, 1, 1, 1, 1, 1, 2, 4, 7, 7]), [1, 0, 3, 0, 4, 7])

    def test_refused_calls_pass_over_their_lists(self):
        self.assertEqual(answers([5, 0, 0, 600] + [4] * 600 + [7]), [1, -1, 1, 0])
        self.assertEqual(answers([8, 0, 0, 0, 0, 0, 0, 4100] + [4] * 4100 + [7]), [1, -6, 1, 0])

    def test_three_hundred_runs(self):
        given = answers([2, 0, 100000000] + [5, 100, LAST_TICK, 0] * 298 + [4])
        self.assertEqual(given, [1, 0] + [3, 0, 100, 0] * 298 + [7, 0, 0, 0, 0, 29800 * 40 - 37, 0, 0])

    def test_as_many_numbers_as_there_may_be(self):
        full = [number for address in range(2000) for number in (address, 1)]
        calls = load(numbers=full) * 3 + drum() + run(0, 0, [1] * 512) * 3
        self.assertLessEqual(len(calls), 14000)
        self.assertEqual(answers(calls), [1, 0] * 3 + [4001, 0] + full + [3, 0, 0, 0] * 3)

    def test_arguments_that_look_like_calls(self):
        self.assertEqual(answers([1, 4, 2, 3, 1, 3, 3, 3, 2, 4]), [
            1, 0, 1, 0, 2, 0, 1, 2, 0, 0, 7, 0, 0, 0, 4, 0, 0, 0])

    def test_as_many_calls_as_there_may_be(self):
        calls = [poke(1999, 1), told(), peek(1999)] * 100
        self.assertEqual(taken_apart(answers(line(calls))), expected(calls))

    def test_whole_numbers_in_a_list(self):
        for calls in (EDGE_CALLS, MIXED_CALLS):
            given = answers(line(calls))
            self.assertIs(type(given), list)
            self.assertEqual({type(number) for number in given}, {int})

    def test_edge_calls_in_any_order(self):
        tail = [told(), peek(0), peek(1999)]
        for first in itertools.product(EDGE_CALLS, repeat=3):
            calls = list(first) + tail
            self.assertEqual(taken_apart(answers(line(calls))), expected(calls), calls)


class WatchedList(list):
    """A list that takes no change, not for a while either."""

    def refuse(self, *arguments, **named):
        raise AssertionError("the list handed in was to be changed")

    append = extend = insert = pop = remove = clear = sort = reverse = refuse
    __setitem__ = __delitem__ = __iadd__ = __imul__ = refuse


class KeepsNothingTest(unittest.TestCase):
    def test_what_is_handed_in_is_not_changed(self):
        for calls in (line(EDGE_CALLS), line(MIXED_CALLS)):
            before = list(calls)
            answers(calls)
            self.assertEqual(calls, before)
            self.assertEqual(answers(WatchedList(before)), answers(before))

    def test_a_second_time_answers_as_the_first(self):
        calls = line([peek(0), told(), poke(0, 5), new(9), poke(9, 6), peek(9), told()])
        first = answers(calls)
        self.assertEqual(answers(calls), first)
        self.assertEqual(answers([4, 3, 9, 3, 0]), [7, 0, 0, 0, 0, 0, 0, 0, 2, 0, 0, 2, 0, 0])

    def test_a_second_run_answers_as_the_first(self):
        calls = line(MIXED_CALLS)
        first = answers(calls)
        self.assertEqual(first[:5], [1, 0, 11, 0, 3])
        self.assertEqual(answers(calls), first)
        self.assertEqual(answers([7, 4, 5, 1, 1, 0]), [1, 0, 7, 0, 0, 0, 0, 0, 0, 0, 3, 0, 1, 0])

    def test_what_is_given_back_is_the_callers_own(self):
        first = answers([4, 1, 2000])
        before = list(first)
        first.clear()
        self.assertEqual(answers([4, 1, 2000]), before)

    def test_prints_and_imports_nothing(self):
        loaded = set(sys.modules)
        out = io.StringIO()
        err = io.StringIO()
        with contextlib.redirect_stdout(out), contextlib.redirect_stderr(err):
            answers(line(EDGE_CALLS))
            answers(line(MIXED_CALLS))
        self.assertEqual((out.getvalue(), err.getvalue()), ("", ""))
        self.assertEqual(set(sys.modules), loaded)


if __name__ == "__main__":
    unittest.main()
