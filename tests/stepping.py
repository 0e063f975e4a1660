"""What the tests of single orders share: a machine told, run, and looked at."""

import unittest

from calling import LAST_TICK, ask, drum, drum_list, load, run, told, written

NAMES = ("state", "over", "n", "t", "a", "d")


def stepped(words, orders=1, cards=(), until=LAST_TICK, **before):
    """All that a machine with these words is and answered behind a run, by name."""
    given = ask(load(numbers=drum_list(words), **before), run(orders, until, cards), told(), drum())
    if given[0] != [0] or given[1][0] != 0:
        raise AssertionError(f"refused: {given[:2]!r}")
    after = dict(zip(NAMES, given[2][1:]))
    after["begun"] = given[1][1]
    after["read"] = given[1][2]
    after["punched"] = given[1][3:]
    after["words"] = dict(zip(given[3][1::2], given[3][2::2]))
    return after


class OrderCase(unittest.TestCase):
    """Tests of one order at a time; the next order's address is 777 throughout."""

    def check(self, name, data, before, changes, words=None, stored=None, cards=(), punched=()):
        """The order lies at N; behind it all is as before but N 777 and what changes and stored say."""
        told_before = {"state": 0, "over": 0, "n": 0, "t": 0, "a": 0, "d": 0, **before}
        held = {**(words or {}), told_before["n"]: written(name, data, 777)}
        wanted = {**told_before, "n": 777, **changes}
        wanted["begun"] = 1
        wanted["read"] = 1 if name == "RDC" else 0
        wanted["punched"] = list(punched)
        wanted["words"] = {a: v for a, v in {**held, **(stored or {})}.items() if v != 0}
        with self.subTest(name=name, data=data, before=before, words=words):
            self.assertEqual(stepped(held, cards=cards, **before), wanted)
