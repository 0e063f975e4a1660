"""Promise 5: the faults 2 to 6, which comes first, and what a stop leaves as it was."""

import unittest

from calling import CODES, LARGEST_WORD, ask, drum, load, new, peek, poke, run, told, written
from stepping import stepped

WITHOUT_D = ("NOP", "SHL", "SHR", "SRR", "SCT")
NO_CODES = tuple(code for code in range(100) if code not in CODES)


def word_of(code, data, following):
    return code * 10 ** 8 + data * 10 ** 4 + following


class FaultCase(unittest.TestCase):
    def check_stop(self, word, state, cards=()):
        """Stopped at place 5, read at tick 45; nothing else is other than before."""
        before = {"over": 1, "n": 1925, "t": 6, "a": -77, "d": 88}
        words = {1925: word, 3: 4} if word else {3: 4}
        with self.subTest(word=word):
            self.assertEqual(stepped(words, orders=10, cards=cards, **before), {
                **before, "state": state, "t": 48, "words": words, "begun": 1, "read": 0, "punched": []})

    def check_goes_on(self, word, cards=()):
        with self.subTest(word=word):
            self.assertEqual(stepped({5: word}, n=5, cards=cards)["state"], 0)


class FaultTest(FaultCase):
    def test_2_below_0(self):
        for word in (-1, -LARGEST_WORD, -written("NOP", 0, 0), -written("HLT", 0, 1)):
            self.check_stop(word, 2)

    def test_3_no_such_code(self):
        self.assertEqual(len(NO_CODES), 100 - 26)
        for code in NO_CODES:
            self.check_stop(word_of(code, 0, 0), 3)

    def test_4_n(self):
        for name in CODES.values():
            if name != "HLT":
                self.check_stop(written(name, 0, 2000), 4, [1] * 8)
                self.check_stop(written(name, 0, 9999), 4, [1] * 8)
                self.check_goes_on(written(name, 0, 1999), [1] * 8)

    def test_4_d(self):
        for name in CODES.values():
            if name != "HLT" and name not in WITHOUT_D:
                self.check_stop(written(name, 2000, 0), 4, [1] * 8)
                self.check_stop(written(name, 9999, 1999), 4, [1] * 8)
                self.check_goes_on(written(name, 1999, 1999), [1] * 8)

    def test_5_shifts(self):
        for name in ("SHL", "SHR", "SRR"):
            for data in (21, 22, 1999, 2000, 9999):
                self.check_stop(written(name, data, 0), 5)
            for data in (0, 1, 20):
                self.check_goes_on(written(name, data, 1999))

    def test_6_no_card(self):
        self.check_stop(written("RDC", 0, 0), 6)
        self.check_stop(written("RDC", 1999, 1999), 6)
        self.check_goes_on(written("RDC", 0, 0), [1] * 8)
        self.check_goes_on(written("PCH", 0, 0))

    def test_where_d_is_not_looked_at(self):
        for data in (2000, 9999):
            self.check_goes_on(written("NOP", data, 0))
        for data in (21, 2000, 9999):
            self.check_goes_on(written("SCT", data, 0))

    def test_where_neither_is_looked_at(self):
        for data in (0, 2000, 9999):
            for following in (0, 2000, 9999):
                self.check_stop(written("HLT", data, following), 1)


class FirstTest(FaultCase):
    def test_2_before_3_and_4_and_5_and_6(self):
        for code in range(100):
            word = -word_of(code, 9999, 9999)
            self.check_stop(word, 2)

    def test_3_before_4(self):
        for code in NO_CODES:
            self.check_stop(word_of(code, 9999, 9999), 3)

    def test_4_before_5(self):
        for name in ("SHL", "SHR", "SRR"):
            self.check_stop(written(name, 21, 2000), 4)
            self.check_stop(written(name, 9999, 9999), 4)

    def test_4_before_6(self):
        self.check_stop(written("RDC", 0, 2000), 4)
        self.check_stop(written("RDC", 2000, 0), 4)

    def test_a_fault_takes_no_card(self):
        words = {0: written("RDC", 2000, 0)}
        after = stepped(words, orders=5, cards=[1] * 16)
        self.assertEqual((after["state"], after["read"], after["words"]), (4, 0, words))


class StoppedTest(unittest.TestCase):
    def test_a_stopped_machine_does_nothing(self):
        words = [3, written("PCH", 0, 3)]
        for state in range(1, 7):
            with self.subTest(state=state):
                given = ask(load(state, 1, 3, 9, -7, 8, words), run(10000, cards=[1] * 8), told(), drum())
                self.assertEqual(given[1:], [[0, 0, 0], [0, state, 1, 3, 9, -7, 8], [0] + words])

    def test_a_second_run_does_nothing(self):
        given = ask(run(5), told(), run(5), told())
        self.assertEqual(given, [[0, 1, 0], [0, 1, 0, 0, 3, 0, 0], [0, 0, 0], [0, 1, 0, 0, 3, 0, 0]])

    def test_a_stopped_machine_is_poked_and_stays_stopped(self):
        given = ask(run(1), poke(0, written("NOP", 0, 0)), run(1), told(), peek(0))
        self.assertEqual(given[2:], [[0, 0, 0], [0, 1, 0, 0, 3, 0, 0], [0, written("NOP", 0, 0)]])

    def test_new_lets_it_run(self):
        given = ask(run(1), new(0), poke(0, written("NOP", 0, 7)), run(1), told())
        self.assertEqual(given[3:], [[0, 1, 0], [0, 0, 0, 7, 3, 0, 0]])

    def test_orders_before_the_stop_have_been_done(self):
        words = {0: written("LDA", 3, 5), 3: -8, 5: written("STL", 9, 12), 12: 9900000000}
        after = stepped(words, orders=100)
        # LDA: 5; read at 5, taken apart at 8, 9 is next: 10; read at 12: 15.
        self.assertEqual((after["state"], after["n"], after["t"], after["a"]), (3, 12, 15, -8))
        self.assertEqual((after["begun"], after["words"]), (3, {**words, 9: -8}))


if __name__ == "__main__":
    unittest.main()
