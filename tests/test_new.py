"""Promise 1: new."""

import unittest

from calling import HUGE, WRONG_ADDRESSES, ask, new, peek, poke, told
from turndrum.machine import Machine
from turndrum.store import new as call_new
from turndrum.store import told as call_told


class NewTest(unittest.TestCase):
    def test_answers_nothing_more(self):
        self.assertEqual(ask(new(5)), [[0]])

    def test_n_is_start(self):
        for start in (0, 1, 39, 40, 777, 1998, 1999):
            with self.subTest(start=start):
                self.assertEqual(ask(new(start), told()), [[0], [0, 0, 0, start, 0, 0, 0]])

    def test_n_is_the_last_start(self):
        given = ask(new(1999), told(), new(0), told(), new(12), new(34), told())
        self.assertEqual([answer[3] for answer in given if len(answer) == 7], [1999, 0, 34])

    def test_every_word_is_0_again(self):
        pokes = [poke(address, address - 1000) for address in range(0, 2000, 20)]
        peeks = [peek(address) for address in range(0, 2000, 20)]
        given = ask(*pokes, new(3), *peeks, told())
        self.assertEqual(given[101:201], [[0, 0]] * 100)
        self.assertEqual(given[201], [0, 0, 0, 3, 0, 0, 0])

    def test_the_edges_of_the_drum_are_0_again(self):
        given = ask(poke(0, 7), poke(1999, -8), new(1999), peek(0), peek(1999))
        self.assertEqual(given, [[0], [0], [0], [0, 0], [0, 0]])

    def test_same_start_is_new_as_well(self):
        self.assertEqual(ask(new(9), poke(9, 1), new(9), peek(9)), [[0], [0], [0], [0, 0]])

    def test_a_machine_that_has_run_is_new_again(self):
        machine = Machine()
        machine.state = 6
        machine.over = 1
        machine.n = 17
        machine.t = 2 ** 64 - 1
        machine.a = -(10 ** 20 - 1)
        machine.d = 9999999999
        machine.drum[1999] = 4
        self.assertEqual(call_new(machine, 1200), [0])
        self.assertEqual(call_told(machine), [0, 0, 0, 1200, 0, 0, 0])
        self.assertEqual(machine.drum, [0] * 2000)

    def test_refuses_a_start_that_is_no_address(self):
        for start in WRONG_ADDRESSES:
            with self.subTest(start=start):
                self.assertEqual(ask(new(start)), [[-1]])

    def test_refused_leaves_the_machine_as_it_was(self):
        for start in WRONG_ADDRESSES:
            with self.subTest(start=start):
                given = ask(new(61), poke(0, 5), poke(1999, -6), new(start), told(), peek(0), peek(1999))
                self.assertEqual(given[3:], [[-1], [0, 0, 0, 61, 0, 0, 0], [0, 5], [0, -6]])

    def test_refused_at_the_beginning_leaves_a_new_machine(self):
        self.assertEqual(ask(new(HUGE), told(), peek(0)), [[-1], [0, 0, 0, 0, 0, 0, 0], [0, 0]])


if __name__ == "__main__":
    unittest.main()
