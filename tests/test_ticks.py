"""Promise 5: when an order is read, what it waits for, and T behind it."""

import unittest

from calling import CODES, LAST_TICK, written
from stepping import stepped

WAITING = ("LDA", "LDN", "ADD", "SUB", "ADM", "SBM", "ADU", "SBU", "LDD", "MUL", "DIV", "STL", "STU", "STD", "TLU")
# Behind the waits, of a machine whose A, D and drum are 0 but for the order; DIV is by 0, shifts are by 15.
BEHIND = {
    "NOP": 0, "LDA": 1, "LDN": 1, "ADD": 2, "SUB": 2, "ADM": 2, "SBM": 2, "ADU": 2, "SBU": 2, "LDD": 0,
    "MUL": 4, "DIV": 6, "STL": 0, "STU": 0, "STD": 0, "SHL": 17, "SHR": 17, "SRR": 17, "SCT": 22,
    "BMI": 1, "BNZ": 1, "BOV": 1, "TLU": 1, "RDC": 60, "PCH": 60,
}


def first_tick(tick, address):
    while tick % 40 != address % 40:
        tick += 1
    return tick


def tick_behind(name, n, t, data):
    tick = first_tick(t, n) + 3
    if name in WAITING:
        tick = first_tick(tick, data) + 1
    return (tick + BEHIND[name]) % 2 ** 64


class WaitTest(unittest.TestCase):
    def test_every_name_has_its_ticks(self):
        self.assertEqual(sorted([*BEHIND, "HLT"]), sorted(CODES.values()))

    def test_the_order_is_waited_for(self):
        # (N, T, T behind a NOP).
        for n, t, behind in ((0, 0, 3), (0, 1, 43), (0, 40, 43), (39, 0, 42), (39, 39, 42), (39, 40, 82),
                             (1999, 5, 42), (1960, 5, 43), (40, 0, 3), (7, 6, 10), (7, 7, 10), (7, 8, 50)):
            with self.subTest(n=n, t=t):
                self.assertEqual(stepped({n: written("NOP", 0, 777)}, n=n, t=t)["t"], behind)

    def test_each_order_at_each_place(self):
        for name in BEHIND:
            for n, t in ((0, 0), (1999, 0), (85, 1000), (85, 999), (85, 1006)):
                places = range(15, 16) if name in ("SHL", "SHR", "SRR") else range(200, 240)
                for data in places:
                    after = stepped({n: written(name, data, 777)}, n=n, t=t, cards=[0] * 8)
                    self.assertEqual(after["t"], tick_behind(name, n, t, data), (name, n, t, data))

    def test_the_next_order_is_waited_for_from_then_on(self):
        # Behind the first it's 3, so place 3 is read at once; behind that it's 6, and place 5 comes at 45.
        words = {0: written("NOP", 0, 3), 3: written("NOP", 0, 45), 45: written("NOP", 0, 0)}
        self.assertEqual([stepped(words, orders=count)["t"] for count in (1, 2, 3)], [3, 6, 48])


class LastTickTest(unittest.TestCase):
    """2^64 modulo 40 is 16: behind the last tick another place passes than before."""

    def test_the_last_place_before_it(self):
        # LAST_TICK is at place 15, where the order is read; until is the last tick itself.
        self.assertEqual(stepped({15: written("NOP", 0, 777)}, n=15, t=LAST_TICK - 1)["t"], 2)

    def test_t_is_the_last_tick_itself(self):
        after = stepped({12: written("NOP", 0, 777)}, n=12, t=LAST_TICK - 3)
        self.assertEqual((after["t"], after["n"]), (LAST_TICK, 777))

    def test_t_is_0_again(self):
        self.assertEqual(stepped({13: written("NOP", 0, 777)}, n=13, t=LAST_TICK - 2)["t"], 0)

    def test_ticks_are_counted_on_within_an_order(self):
        # Place 16 is tick 2^64, so the order is read there, not at place 0's next tick.
        self.assertEqual(stepped({16: written("NOP", 0, 777)}, n=16, t=LAST_TICK - 1)["t"], 3)
        # Place 0 comes at 2^64 + 24.
        self.assertEqual(stepped({0: written("NOP", 0, 777)}, n=0, t=LAST_TICK - 1)["t"], 27)

    def test_the_word_is_waited_for_beyond_the_last_tick(self):
        # Read at 2^64 - 4, taken apart at 2^64 - 1; place 14 comes at 2^64 + 38: then it's 39, and 1 behind.
        after = stepped({12: written("LDA", 54, 777), 54: 8}, n=12, t=LAST_TICK - 3)
        self.assertEqual((after["t"], after["a"]), (40, 8))
        # Place 15 is there at once.
        after = stepped({12: written("LDA", 55, 777), 55: 8}, n=12, t=LAST_TICK - 3)
        self.assertEqual((after["t"], after["a"]), (1, 8))

    def test_each_order_beyond_the_last_tick(self):
        for name in BEHIND:
            for n in range(80, 120):
                after = stepped({n: written(name, 15, 777)}, n=n, t=LAST_TICK - 7, cards=[0] * 8)
                self.assertEqual(after["t"], tick_behind(name, n, LAST_TICK - 7, 15), (name, n))

    def test_a_stop_beyond_the_last_tick(self):
        after = stepped({}, n=14, t=LAST_TICK - 1)
        self.assertEqual((after["state"], after["t"], after["n"]), (1, 1, 14))
        after = stepped({15: -1}, n=15, t=LAST_TICK - 1)
        self.assertEqual((after["state"], after["t"], after["n"]), (2, 2, 15))

    def test_a_run_goes_on_behind_it(self):
        # Behind the first order T is 2; place 2 is then tick 2.
        words = {15: written("NOP", 0, 2), 2: written("NOP", 0, 9)}
        after = stepped(words, orders=2, n=15, t=LAST_TICK - 1)
        self.assertEqual((after["begun"], after["t"], after["n"]), (2, 5, 9))


if __name__ == "__main__":
    unittest.main()
