"""Promise 4: told."""

import unittest

from calling import ask, new, peek, poke, told
from turndrum.machine import Machine
from turndrum.store import told as call_told


class ToldTest(unittest.TestCase):
    def test_a_new_machine_runs_from_0(self):
        self.assertEqual(ask(told()), [[0, 0, 0, 0, 0, 0, 0]])

    def test_behind_a_new_with_another_start(self):
        self.assertEqual(ask(new(1234), told())[1], [0, 0, 0, 1234, 0, 0, 0])

    def test_a_second_time_it_tells_the_same(self):
        given = ask(new(1999), told(), told(), told())
        self.assertEqual(given[1:], [[0, 0, 0, 1999, 0, 0, 0]] * 3)

    def test_changes_nothing(self):
        self.assertEqual(ask(poke(0, 9), told(), peek(0), told())[2:], [[0, 9], [0, 0, 0, 0, 0, 0, 0]])

    def test_tells_each_value_in_its_place(self):
        machine = Machine()
        machine.state = 2
        machine.over = 1
        machine.n = 1999
        machine.t = 2 ** 64 - 1
        machine.a = -(10 ** 20 - 1)
        machine.d = -9999999999
        told_so = [0, 2, 1, 1999, 18446744073709551615, -99999999999999999999, -9999999999]
        self.assertEqual(call_told(machine), told_so)
        self.assertEqual(call_told(machine), told_so)


if __name__ == "__main__":
    unittest.main()
