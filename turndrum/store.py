"""The calls on one machine, and the answers to a list of them."""

from turndrum.machine import Machine, is_address, is_word

NEW = 1
POKE = 2
PEEK = 3

# How many whole numbers stand behind each call's number (4 is told).
ARGUMENT_COUNTS = {1: 1, 2: 2, 3: 1, 4: 0}

DONE = 0
NOT_GRANTED = -1


def new(machine, start):
    if not is_address(start):
        return [NOT_GRANTED]
    machine.begin(start)
    return [DONE]


def poke(machine, address, word):
    if not is_address(address) or not is_word(word):
        return [NOT_GRANTED]
    machine.drum[address] = word
    return [DONE]


def peek(machine, address):
    if not is_address(address):
        return [NOT_GRANTED]
    return [DONE, machine.drum[address]]


def told(machine):
    return [DONE, machine.state, machine.over, machine.n, machine.t, machine.a, machine.d]


def answer_one(machine, call, arguments):
    if call == NEW:
        return new(machine, arguments[0])
    if call == POKE:
        return poke(machine, arguments[0], arguments[1])
    if call == PEEK:
        return peek(machine, arguments[0])
    return told(machine)


def answers(calls):
    machine = Machine()
    given = []
    at = 0
    while at < len(calls):
        behind = at + 1 + ARGUMENT_COUNTS[calls[at]]
        answer = answer_one(machine, calls[at], calls[at + 1:behind])
        given.append(len(answer))
        given.extend(answer)
        at = behind
    return given
