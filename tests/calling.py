"""What the tests share: calls written one by one, and answers taken apart."""

from turndrum.store import answers

HUGE = 1000000000000000000000
LARGEST_WORD = 9999999999
LARGEST_LONG = 99999999999999999999
LAST_TICK = 18446744073709551615

WRONG_ADDRESSES = (-1, 2000, -2, 2001, -2000, LARGEST_WORD, -HUGE, HUGE)
WRONG_WORDS = (-LARGEST_WORD - 1, LARGEST_WORD + 1, -HUGE, HUGE)
WRONG_TICKS = (-1, LAST_TICK + 1, -HUGE, HUGE)

CODES = {
    0: "HLT", 1: "NOP", 10: "LDA", 11: "LDN", 12: "ADD", 13: "SUB", 14: "ADM", 15: "SBM", 16: "ADU", 17: "SBU",
    18: "LDD", 20: "MUL", 21: "DIV", 30: "STL", 31: "STU", 32: "STD", 40: "SHL", 41: "SHR", 42: "SRR", 43: "SCT",
    50: "BMI", 51: "BNZ", 52: "BOV", 60: "TLU", 70: "RDC", 71: "PCH",
}


def new(start):
    return [1, start]


def poke(address, word):
    return [2, address, word]


def peek(address):
    return [3, address]


def told():
    return [4]


def run(orders, until=LAST_TICK, cards=()):
    return [5, orders, until, len(cards), *cards]


def order(word):
    return [6, word]


def drum():
    return [7]


def load(state=0, over=0, n=0, t=0, a=0, d=0, numbers=()):
    return [8, state, over, n, t, a, d, len(numbers), *numbers]


def written(name, data, following):
    """The word of an order, by its name."""
    codes = {known: code for code, known in CODES.items()}
    return int(f"{codes[name]:02}{data:04}{following:04}")


def drum_list(words):
    """A dict of words by address in drum's form."""
    return [number for address in sorted(words) if words[address] != 0 for number in (address, words[address])]


def line(calls):
    return [number for call in calls for number in call]


def taken_apart(given):
    parts = []
    at = 0
    while at < len(given):
        behind = at + 1 + given[at]
        if given[at] < 1 or behind > len(given):
            raise AssertionError(f"not a row of answers: {given!r}")
        parts.append(given[at + 1:behind])
        at = behind
    return parts


def ask(*calls):
    """The answers to these calls on one new machine, a list each."""
    return taken_apart(answers(line(calls)))
