"""What the orders without cards do.

Each action has the machine, whose D is loaded and whose N is n already, and
the data address; it answers the ticks that lie behind the order's waits.
"""

from turndrum.longs import (
    WORD_BASE, digit_sum, divided, divided_rounded, lower_word, power_of_ten, tens_that_fit, upper_word)
from turndrum.machine import band_from

# Where no word is found, the last of the forty isn't passed.
PASSED_WHERE_NONE = 39


def nothing_more(machine, address):
    return 0


def load_a(machine, address):
    machine.a = machine.d
    return 1


def load_negated(machine, address):
    machine.a = -machine.d
    return 1


def add(machine, address):
    machine.keep(machine.a + machine.d)
    return 2


def subtract(machine, address):
    machine.keep(machine.a - machine.d)
    return 2


def add_unsigned(machine, address):
    machine.keep(machine.a + abs(machine.d))
    return 2


def subtract_unsigned(machine, address):
    machine.keep(machine.a - abs(machine.d))
    return 2


def add_upper(machine, address):
    machine.keep(machine.a + machine.d * WORD_BASE)
    return 2


def subtract_upper(machine, address):
    machine.keep(machine.a - machine.d * WORD_BASE)
    return 2


def multiply(machine, address):
    machine.a = lower_word(machine.a) * machine.d
    return 4 + 2 * digit_sum(machine.d)


def divide(machine, address):
    if machine.d == 0 or abs(machine.a) >= abs(machine.d) * WORD_BASE:
        machine.over = 1
        return 6
    quotient = divided(machine.a, machine.d)
    machine.d = machine.a - quotient * machine.d
    machine.a = quotient
    return 6 + 2 * digit_sum(quotient)


def store_lower(machine, address):
    machine.drum[address] = lower_word(machine.a)
    return 0


def store_upper(machine, address):
    machine.drum[address] = upper_word(machine.a)
    return 0


def store_d(machine, address):
    machine.drum[address] = machine.d
    return 0


def shift_left(machine, address):
    machine.keep(machine.a * power_of_ten(address))
    return 2 + address


def shift_right(machine, address):
    machine.a = divided(machine.a, power_of_ten(address))
    return 2 + address


def shift_right_rounded(machine, address):
    machine.a = divided_rounded(machine.a, power_of_ten(address))
    return 2 + address


def shift_and_count(machine, address):
    machine.d = tens_that_fit(machine.a)
    machine.a = machine.a * power_of_ten(machine.d)
    return 2 + machine.d


def branch_below_zero(machine, address):
    if machine.a < 0:
        machine.n = address
    return 1


def branch_not_zero(machine, address):
    if machine.a != 0:
        machine.n = address
    return 1


def branch_over(machine, address):
    if machine.over == 1:
        machine.over = 0
        machine.n = address
    return 1


def look_up(machine, address):
    for before, word in enumerate(band_from(machine.drum, address)):
        if word >= machine.d:
            machine.a = before
            return before + 1
    machine.over = 1
    return PASSED_WHERE_NONE + 1


ACTIONS = {
    1: nothing_more,
    10: load_a, 11: load_negated, 12: add, 13: subtract, 14: add_unsigned, 15: subtract_unsigned,
    16: add_upper, 17: subtract_upper, 18: nothing_more,
    20: multiply, 21: divide,
    30: store_lower, 31: store_upper, 32: store_d,
    40: shift_left, 41: shift_right, 42: shift_right_rounded, 43: shift_and_count,
    50: branch_below_zero, 51: branch_not_zero, 52: branch_over,
    60: look_up,
}
