"""Promise 5: programs of several orders, by hand and against the second telling in model.py."""

import random
import unittest

from calling import (
    CODES, LARGEST_LONG, LARGEST_WORD, LAST_TICK, ask, drum, drum_list, load, run, told, written)
from model import Model
from stepping import stepped

EDGE_WORDS = (0, 1, -1, 5, -5, 10, 4999999999, 5000000000, -5000000000, LARGEST_WORD, -LARGEST_WORD)
EDGE_LONGS = EDGE_WORDS + (
    10 ** 10, -10 ** 10, 10 ** 19, -10 ** 19, 5 * 10 ** 19, 5 * 10 ** 19 - 1, LARGEST_LONG, -LARGEST_LONG,
    LARGEST_WORD * 10 ** 10, -LARGEST_WORD * 10 ** 10, LARGEST_LONG - 1, 12345678901234567890)


class ProgramTest(unittest.TestCase):
    def test_a_loop(self):
        # What lies at 10 is doubled; what lies at 11 counts down how often.
        words = {
            0: written("LDA", 10, 4), 4: written("ADD", 10, 7), 7: written("STL", 10, 20),
            20: written("LDA", 11, 24), 24: written("SUB", 12, 27), 27: written("STL", 11, 30),
            30: written("BNZ", 0, 33), 33: written("HLT", 0, 0),
            10: 2, 11: 5, 12: 1,
        }
        after = stepped(words, orders=10000)
        self.assertEqual((after["words"][10], after["begun"], after["state"], after["n"]), (64, 36, 1, 33))
        self.assertNotIn(11, after["words"])
        self.assertEqual((after["a"], after["d"], after["over"]), (0, 1, 0))

    def test_ticks_of_a_program(self):
        words = {0: written("LDA", 10, 14), 14: written("MUL", 17, 39), 39: written("DIV", 79, 0), 10: 12, 17: 21, 79: 5}
        # Read 0, apart 3, word 10, then 11, and 1: 12.
        # Read 14, apart 17, word 17, then 18, and 4 + 2 * 3: 28.
        # Read 39, apart 42, word 79, then 80, and 6 + 2 * 5 (252 by 5 is 50): 96.
        self.assertEqual([stepped(words, orders=count)["t"] for count in (1, 2, 3)], [12, 28, 96])
        after = stepped(words, orders=3)
        self.assertEqual((after["a"], after["d"], after["n"]), (50, 2, 0))

    def test_an_order_that_changes_the_word_that_is_read_next(self):
        # The word at 5 would stop the machine; STL lays a NOP over it first.
        words = {0: written("STL", 5, 5), 5: -1}
        after = stepped(words, orders=2, a=written("NOP", 0, 9))
        self.assertEqual((after["state"], after["n"], after["begun"]), (0, 9, 2))
        self.assertEqual(after["words"][5], written("NOP", 0, 9))

    def test_an_order_that_changes_itself(self):
        words = {0: written("STD", 0, 0)}
        after = stepped(words, orders=2, d=written("NOP", 0, 17))
        self.assertEqual((after["state"], after["n"], after["words"]), (0, 17, {0: written("NOP", 0, 17)}))

    def test_n_at_a_bands_last_place(self):
        words = {39: written("NOP", 0, 79), 79: written("NOP", 0, 1999), 1999: written("NOP", 0, 40)}
        after = [stepped(words, orders=count, n=39) for count in (1, 2, 3)]
        self.assertEqual([(one["n"], one["t"]) for one in after], [(79, 42), (1999, 82), (40, 122)])

    def test_over_is_asked_once(self):
        words = {0: written("BOV", 8, 5), 8: written("BOV", 20, 0)}
        after = stepped(words, orders=3, over=1)
        # The first goes to 8; there over is 0, so the next lies at 0 again, and behind it at 5.
        self.assertEqual((after["n"], after["over"]), (5, 0))

    def test_a_table_is_looked_up(self):
        table = {40 + place: (place + 1) * 100 for place in range(40)}
        for asked, found in ((1, 0), (100, 0), (101, 1), (3950, 39), (4000, 39)):
            words = {**table, 0: written("LDD", 5, 8), 5: asked, 8: written("TLU", 40, 20)}
            self.assertEqual(stepped(words, orders=2)["a"], found)


class AgainstModelTest(unittest.TestCase):
    """The source of the programs is seeded: each time they are the same."""

    def words(self, source):
        """Orders that stay among few addresses, so that they meet, and some edges."""
        places = [source.randrange(2000) for count in range(6)] + [0, 39, 40, 1999, 1960]
        words = {}
        for place in places:
            name = source.choice(list(CODES.values()))
            data = source.choice(places)
            if name in ("SHL", "SHR", "SRR"):
                data = source.choice((0, 1, 5, 9, 10, 11, 19, 20))
            words[place] = written(name, data, source.choice(places))
            if source.randrange(12) == 0:
                words[place] = source.choice(EDGE_WORDS)
        return words, places

    def check_program(self, seed):
        source = random.Random(seed)
        words, places = self.words(source)
        model = Model()
        model.words = dict(words)
        tick = source.choice((0, source.randrange(10 ** 6), LAST_TICK - source.randrange(2000)))
        model.told.update({
            "over": source.randrange(2), "n": source.choice(places), "t": tick,
            "a": source.choice(EDGE_LONGS), "d": source.choice(EDGE_WORDS)})
        calls = [load(*model.told.values(), drum_list(words))]
        wanted = [[0]]
        for count in range(3):
            cards = [source.choice(EDGE_WORDS) for place in range(8 * source.randrange(5))]
            orders = source.choice((1, 2, 5, 40))
            until = source.choice((LAST_TICK, LAST_TICK, min(LAST_TICK, tick + source.randrange(300))))
            calls += [run(orders, until, cards), told(), drum()]
            wanted += [[0] + model.run(orders, until, cards), [0, *model.told.values()], [0] + model.drum()]
        self.assertEqual(ask(*calls), wanted, seed)

    def test_programs(self):
        for seed in range(3000):
            self.check_program(seed)

    def test_each_order_on_edges(self):
        for code, name in CODES.items():
            for word in EDGE_WORDS:
                for a in EDGE_LONGS:
                    data = 20 if code in (40, 41, 42) else 1999
                    words = {0: written(name, data, 777), 1999: word}
                    model = Model()
                    model.words = dict(words)
                    model.told.update({"a": a, "d": 3})
                    answer = [0] + model.run(1, LAST_TICK, [7] * 8)
                    given = ask(load(0, 0, 0, 0, a, 3, drum_list(words)), run(1, LAST_TICK, [7] * 8), told(), drum())
                    self.assertEqual(given[1:], [answer, [0, *model.told.values()], [0] + model.drum()], (name, word, a))

    def test_each_shift_of_edges(self):
        for name in ("SHL", "SHR", "SRR"):
            for data in range(21):
                for a in EDGE_LONGS:
                    model = Model()
                    model.words = {0: written(name, data, 777)}
                    model.told["a"] = a
                    model.run(1, LAST_TICK, [])
                    after = stepped({0: written(name, data, 777)}, a=a)
                    self.assertEqual({key: after[key] for key in model.told}, model.told, (name, data, a))


if __name__ == "__main__":
    unittest.main()
