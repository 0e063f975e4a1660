"""One order, and orders one after another."""

from turndrum.actions import ACTIONS
from turndrum.machine import waited
from turndrum.orders import (
    GOES_ON, PUNCH_CARD, READ_CARD, code_of, data_of, loads_d, next_of, stopping_state, waits)

TICKS_TO_TAKE_APART = 3
TICKS_OF_A_CARD = 60


def act(machine, cards, code, address):
    if code == READ_CARD:
        cards.read_to(machine.drum, address)
        return TICKS_OF_A_CARD
    if code == PUNCH_CARD:
        cards.punch_from(machine.drum, address)
        return TICKS_OF_A_CARD
    action = ACTIONS[code]
    return action(machine, address)


def carry_out(machine, cards, word, tick):
    code = code_of(word)
    address = data_of(word)
    if waits(code):
        tick = waited(tick, address) + 1
    if loads_d(code):
        machine.d = machine.drum[address]
    # Before the action, because a branch gives N another address.
    machine.n = next_of(word)
    behind = act(machine, cards, code, address)
    machine.pass_to(tick + behind)


def one_order(machine, cards):
    word = machine.drum[machine.n]
    tick = waited(machine.t, machine.n) + TICKS_TO_TAKE_APART
    state = stopping_state(word, cards.is_left())
    if state == GOES_ON:
        carry_out(machine, cards, word, tick)
    else:
        machine.state = state
        machine.pass_to(tick)


def run_orders(machine, cards, orders, until):
    """How many orders were begun; one that stops the machine counts."""
    begun = 0
    while machine.state == GOES_ON and begun < orders and machine.t < until:
        one_order(machine, cards)
        begun += 1
    return begun
