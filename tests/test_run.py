"""Promise 5: run itself; what single orders do is in the files of the orders."""

import unittest

from calling import (
    HUGE, LARGEST_WORD, LAST_TICK, WRONG_TICKS, WRONG_WORDS, ask, drum, drum_list, load, new, peek, poke, run, told,
    written)
from stepping import stepped

NOP = written("NOP", 0, 0)


class CountTest(unittest.TestCase):
    def test_how_many_orders(self):
        for orders in (0, 1, 2, 9, 9999, 10000):
            with self.subTest(orders=orders):
                after = stepped({0: NOP}, orders=orders)
                # The first is read at 0, then each a turn later.
                self.assertEqual((after["begun"], after["t"]), (orders, 40 * orders - 37 if orders else 0))

    def test_an_order_that_stops_counts(self):
        words = {0: NOP + 3, 3: NOP + 6, 6: 0}
        for orders, begun, state in ((2, 2, 0), (3, 3, 1), (4, 3, 1), (10000, 3, 1)):
            after = stepped(words, orders=orders)
            self.assertEqual((after["begun"], after["state"]), (begun, state))

    def test_a_fault_counts(self):
        self.assertEqual(stepped({0: -1}, orders=10)["begun"], 1)
        self.assertEqual(stepped({0: written("RDC", 50, 0)}, orders=10, cards=[1] * 16)["begun"], 3)

    def test_orders_0_does_nothing(self):
        given = ask(run(0, cards=[1] * 8), told(), drum())
        self.assertEqual(given, [[0, 0, 0], [0, 0, 0, 0, 0, 0, 0], [0]])


class UntilTest(unittest.TestCase):
    def test_until(self):
        # T before the orders is 0, 3, 43, 83.
        for until, begun in ((0, 0), (1, 1), (2, 1), (3, 1), (4, 2), (42, 2), (43, 2), (44, 3), (83, 3), (84, 4)):
            with self.subTest(until=until):
                self.assertEqual(stepped({0: NOP}, orders=100, until=until)["begun"], begun)

    def test_until_is_t(self):
        for tick in (0, 1, 40, LAST_TICK - 1, LAST_TICK):
            with self.subTest(tick=tick):
                after = stepped({0: NOP}, orders=100, until=tick, t=tick)
                self.assertEqual((after["begun"], after["t"], after["n"]), (0, tick, 0))

    def test_until_is_below_t(self):
        self.assertEqual(stepped({0: NOP}, orders=100, until=999, t=1000)["begun"], 0)
        self.assertEqual(stepped({0: NOP}, orders=100, until=0, t=LAST_TICK)["begun"], 0)

    def test_until_is_the_last_tick(self):
        self.assertEqual(stepped({0: NOP}, orders=100, until=LAST_TICK)["begun"], 100)
        self.assertEqual(stepped({0: NOP}, orders=100, until=LAST_TICK, t=LAST_TICK)["begun"], 0)
        # Place 12 passes at the last tick less 3: behind the order T is the last tick.
        after = stepped({12: NOP + 12}, orders=100, n=12, t=LAST_TICK - 3)
        self.assertEqual((after["begun"], after["t"]), (1, LAST_TICK))

    def test_whichever_comes_first(self):
        self.assertEqual(stepped({0: NOP}, orders=2, until=1000)["begun"], 2)
        self.assertEqual(stepped({0: NOP}, orders=1000, until=44)["begun"], 3)

    def test_a_machine_that_would_stop_is_not_stopped_behind_until(self):
        after = stepped({0: NOP + 3}, orders=5, until=3)
        self.assertEqual((after["begun"], after["state"], after["n"]), (1, 0, 3))


class CardsTest(unittest.TestCase):
    READS = {0: written("RDC", 80, 3), 3: written("RDC", 120, 6), 6: written("RDC", 160, 9), 9: 0}
    CARDS = list(range(1, 25))

    def test_in_turn(self):
        after = stepped(self.READS, orders=100, cards=self.CARDS)
        stored = {start + place: card * 8 + place + 1
                  for card, start in enumerate((80, 120, 160)) for place in range(8)}
        wanted = {address: word for address, word in {**self.READS, **stored}.items() if word}
        self.assertEqual((after["read"], after["begun"], after["state"]), (3, 4, 1))
        self.assertEqual(after["words"], wanted)

    def test_none_left(self):
        after = stepped(self.READS, orders=100, cards=self.CARDS[:16])
        self.assertEqual((after["read"], after["begun"], after["state"], after["n"]), (2, 3, 6, 6))
        self.assertEqual((after["words"][80], after["words"][127]), (1, 16))
        self.assertNotIn(160, after["words"])

    def test_what_is_not_read_is_gone(self):
        words = drum_list(self.READS)
        given = ask(load(numbers=words), run(1, cards=self.CARDS), run(1), told())
        self.assertEqual(given[1:3], [[0, 1, 1], [0, 1, 0]])
        self.assertEqual(given[3][1:4], [6, 0, 3])

    def test_each_run_has_its_own_cards(self):
        words = drum_list(self.READS)
        given = ask(load(numbers=words), run(1, cards=self.CARDS), run(1, cards=[50] * 8), peek(80), peek(120), peek(127))
        self.assertEqual(given[1:], [[0, 1, 1], [0, 1, 1], [0, 1], [0, 50], [0, 50]])

    def test_cards_that_nobody_reads(self):
        given = ask(poke(0, NOP), run(3, cards=self.CARDS), drum())
        self.assertEqual(given[1:], [[0, 3, 0], [0, 0, NOP]])

    def test_as_many_as_there_may_be(self):
        after = stepped({0: written("RDC", 80, 0)}, orders=1000, cards=list(range(512)))
        self.assertEqual((after["read"], after["begun"], after["state"]), (64, 65, 6))
        self.assertEqual([after["words"][address] for address in range(80, 88)], list(range(504, 512)))

    def test_a_card_that_writes_the_next_order(self):
        card = [written("NOP", 0, 81), written("PCH", 80, 82), 0, 0, 0, 0, 0, 0]
        after = stepped({0: written("RDC", 80, 80)}, orders=10, cards=card)
        self.assertEqual((after["begun"], after["state"], after["n"]), (4, 1, 82))
        self.assertEqual(after["punched"], card)


class PunchTest(unittest.TestCase):
    def test_in_order(self):
        words = {100: 1, 107: -8, 140: 9, 147: LARGEST_WORD, 0: written("PCH", 140, 3), 3: written("PCH", 100, 6)}
        after = stepped(words, orders=10)
        self.assertEqual(after["punched"], [9, 0, 0, 0, 0, 0, 0, LARGEST_WORD, 1, 0, 0, 0, 0, 0, 0, -8])
        self.assertEqual((after["begun"], after["read"]), (3, 0))

    def test_each_run_tells_its_own(self):
        given = ask(poke(0, written("PCH", 40, 0)), poke(40, 7), run(1), run(0), poke(40, 8), run(2))
        self.assertEqual(given[2], [0, 1, 0, 7] + [0] * 7)
        self.assertEqual(given[3], [0, 0, 0])
        self.assertEqual(given[5], [0, 2, 0] + ([8] + [0] * 7) * 2)

    def test_ten_thousand_cards(self):
        given = ask(poke(0, written("PCH", 0, 0)), run(10000))
        self.assertEqual(given[1], [0, 10000, 0] + ([written("PCH", 0, 0)] + [0] * 7) * 10000)

    def test_read_and_punched(self):
        words = {0: written("RDC", 80, 3), 3: written("PCH", 80, 0)}
        cards = list(range(-16, 16))
        after = stepped(words, orders=100, cards=cards)
        self.assertEqual((after["punched"], after["read"], after["begun"]), (cards, 4, 9))


class RefusalTest(unittest.TestCase):
    BEFORE = [0, 1, 0, 17, -7, 8]

    def check_refused(self, call):
        numbers = [0, NOP, 1999, -5]
        given = ask(load(*self.BEFORE, numbers), call, told(), drum(), run(1))
        with self.subTest(call=call[:4]):
            self.assertEqual(given[1:], [[-1], [0] + self.BEFORE, [0] + numbers, [0, 1, 0]])

    def test_orders(self):
        for orders in (-1, 10001, -10000, HUGE, -HUGE):
            self.check_refused(run(orders))

    def test_until(self):
        for until in WRONG_TICKS:
            self.check_refused(run(1, until))
            self.check_refused(run(0, until))

    def test_more_than_512_words(self):
        for count in (513, 519, 520, 600):
            self.check_refused(run(1, cards=[1] * count))

    def test_no_multiple_of_8(self):
        for count in (1, 7, 9, 12, 511):
            self.check_refused(run(1, cards=[1] * count))

    def test_what_is_no_word(self):
        for word in WRONG_WORDS:
            for at in (0, 7, 8, 15):
                cards = [1] * 16
                cards[at] = word
                self.check_refused(run(1, cards=cards))

    def test_several_at_once(self):
        self.check_refused(run(-1, -1, [HUGE] * 9))

    def test_a_stopped_machine_refuses_as_well(self):
        given = ask(run(1), run(10001), run(1, -1), run(1, cards=[1]), run(1, cards=[HUGE] * 8), run(1), told())
        self.assertEqual(given[1:], [[-1]] * 4 + [[0, 0, 0], [0, 1, 0, 0, 3, 0, 0]])

    def test_the_bounds_themselves(self):
        for call in (run(0, 0), run(10000, 0), run(0, LAST_TICK), run(1, cards=[LARGEST_WORD] * 512),
                     run(1, cards=[-LARGEST_WORD] * 8), run(1, cards=[])):
            with self.subTest(call=call[:4]):
                self.assertEqual(ask(call)[0][0], 0)


class CutTest(unittest.TestCase):
    """A run is the same however it's cut."""

    # A sum of the numbers from 9 down to 1 at 60, with a punched card each time.
    PROGRAM = drum_list({
        0: written("LDA", 60, 8), 8: written("ADD", 61, 16), 16: written("STL", 60, 24),
        24: written("LDA", 61, 32), 32: written("SUB", 62, 35), 35: written("STL", 61, 30),
        30: written("PCH", 60, 31), 31: written("BNZ", 0, 33), 33: 0,
        61: 9, 62: 1,
    })

    def whole(self):
        return ask(load(numbers=self.PROGRAM), run(10000), told(), drum())

    def joined(self, pieces):
        given = ask(load(numbers=self.PROGRAM), *pieces, told(), drum())
        runs = given[1:-2]
        punched = [word for answer in runs for word in answer[3:]]
        return [[0], [0, sum(answer[1] for answer in runs), 0] + punched, given[-2], given[-1]]

    def test_the_sum(self):
        given = self.whole()
        self.assertEqual(given[1][1], 9 * 8 + 1)
        self.assertEqual(given[1][3::8], [9, 17, 24, 30, 35, 39, 42, 44, 45])
        self.assertEqual(given[2][1:4], [1, 0, 33])

    def test_cut_by_orders(self):
        for size in (1, 2, 3, 7, 50):
            with self.subTest(size=size):
                self.assertEqual(self.joined([run(size)] * (80 // size + 1)), self.whole())

    def test_cut_by_ticks(self):
        for size in (17, 40, 300, 1001):
            with self.subTest(size=size):
                pieces = [run(10000, until) for until in range(0, 4700, size)]
                self.assertEqual(self.joined(pieces + [run(10000)]), self.whole())

    def test_cut_with_calls_between(self):
        pieces = [call for count in range(40) for call in (run(2), run(0), run(3, 0))]
        self.assertEqual(self.joined(pieces), self.whole())

    def test_cut_by_load(self):
        first = ask(load(numbers=self.PROGRAM), run(30), told(), drum())
        second = ask(new(77), load(*first[2][1:], first[3][1:]), run(10000), told(), drum())
        self.assertEqual(second[3:], self.whole()[2:])
        self.assertEqual(first[1][3:] + second[2][3:], self.whole()[1][3:])


if __name__ == "__main__":
    unittest.main()
