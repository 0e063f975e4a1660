"""The calls on one machine, and the answers to a list of them."""

from turndrum.cards import CARD_SIZE, Cards
from turndrum.longs import is_long, is_word
from turndrum.machine import DRUM_SIZE, Machine, is_address, is_tick
from turndrum.orders import is_order, writing
from turndrum.running import run_orders

NEW = 1
POKE = 2
PEEK = 3
TOLD = 4
RUN = 5
ORDER = 6
DRUM = 7

# How many whole numbers stand behind each call's number, ahead of its list (8 is load).
ARGUMENT_COUNTS = {1: 1, 2: 2, 3: 1, 4: 0, 5: 2, 6: 1, 7: 0, 8: 6}

CALLS_WITH_A_LIST = (5, 8)

DONE = 0
NOT_GRANTED = -1
NOT_OF_THE_FORM = -6

MOST_ORDERS = 10000
MOST_CARD_WORDS = 512
LAST_STATE = 6


def new(machine, start):
    if not is_address(start):
        return [NOT_GRANTED]
    machine.begin(start)
    return [DONE]


def poke(machine, address, word):
    if not is_address(address) or not is_word(word):
        return [NOT_GRANTED]
    machine.drum[address] = word
    return [DONE]


def peek(machine, address):
    if not is_address(address):
        return [NOT_GRANTED]
    return [DONE, machine.drum[address]]


def told(machine):
    return [DONE, machine.state, machine.over, machine.n, machine.t, machine.a, machine.d]


def are_cards(words):
    if len(words) > MOST_CARD_WORDS or len(words) % CARD_SIZE != 0:
        return False
    return all([is_word(word) for word in words])


def run(machine, orders, until, words):
    if not 0 <= orders <= MOST_ORDERS or not is_tick(until) or not are_cards(words):
        return [NOT_GRANTED]
    cards = Cards(words)
    begun = run_orders(machine, cards, orders, until)
    return [DONE, begun, cards.read_count] + cards.punched


def order(word):
    if not is_word(word):
        return [NOT_GRANTED]
    if not is_order(word):
        return [NOT_OF_THE_FORM]
    return [DONE] + [ord(sign) for sign in writing(word)]


def drum(machine):
    answer = [DONE]
    for address, word in enumerate(machine.drum):
        if word != 0:
            answer.append(address)
            answer.append(word)
    return answer


def is_drum_form(numbers):
    if len(numbers) % 2 != 0:
        return False
    before = -1
    for at in range(0, len(numbers), 2):
        address = numbers[at]
        word = numbers[at + 1]
        if address <= before or not is_address(address) or word == 0 or not is_word(word):
            return False
        before = address
    return True


def are_values(state, over, n, t, a, d):
    if not 0 <= state <= LAST_STATE or not 0 <= over <= 1:
        return False
    return is_address(n) and is_tick(t) and is_long(a) and is_word(d)


def drum_of(numbers):
    words = [0] * DRUM_SIZE
    for at in range(0, len(numbers), 2):
        words[numbers[at]] = numbers[at + 1]
    return words


def load(machine, state, over, n, t, a, d, numbers):
    if not are_values(state, over, n, t, a, d):
        return [NOT_GRANTED]
    if not is_drum_form(numbers):
        return [NOT_OF_THE_FORM]
    machine.state = state
    machine.over = over
    machine.n = n
    machine.t = t
    machine.a = a
    machine.d = d
    machine.drum = drum_of(numbers)
    return [DONE]


def answer_one(machine, call, arguments, numbers):
    if call == NEW:
        return new(machine, arguments[0])
    if call == POKE:
        return poke(machine, arguments[0], arguments[1])
    if call == PEEK:
        return peek(machine, arguments[0])
    if call == TOLD:
        return told(machine)
    if call == RUN:
        return run(machine, arguments[0], arguments[1], numbers)
    if call == ORDER:
        return order(arguments[0])
    if call == DRUM:
        return drum(machine)
    return load(machine, arguments[0], arguments[1], arguments[2], arguments[3], arguments[4], arguments[5], numbers)


def answers(calls):
    machine = Machine()
    given = []
    at = 0
    while at < len(calls):
        call = calls[at]
        behind = at + 1 + ARGUMENT_COUNTS[call]
        arguments = calls[at + 1:behind]
        numbers = []
        if call in CALLS_WITH_A_LIST:
            begin = behind + 1
            behind = begin + calls[behind]
            numbers = calls[begin:behind]
        answer = answer_one(machine, call, arguments, numbers)
        given.append(len(answer))
        given.extend(answer)
        at = behind
    return given
