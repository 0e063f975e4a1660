"""What the tests share: calls written one by one, and answers taken apart."""

from turndrum.store import answers

HUGE = 1000000000000000000000
LARGEST_WORD = 9999999999

WRONG_ADDRESSES = (-1, 2000, -2, 2001, -2000, LARGEST_WORD, -HUGE, HUGE)
WRONG_WORDS = (-LARGEST_WORD - 1, LARGEST_WORD + 1, -HUGE, HUGE)


def new(start):
    return [1, start]


def poke(address, word):
    return [2, address, word]


def peek(address):
    return [3, address]


def told():
    return [4]


def line(calls):
    return [number for call in calls for number in call]


def taken_apart(given):
    parts = []
    at = 0
    while at < len(given):
        behind = at + 1 + given[at]
        if given[at] < 1 or behind > len(given):
            raise AssertionError(f"not a row of answers: {given!r}")
        parts.append(given[at + 1:behind])
        at = behind
    return parts


def ask(*calls):
    """The answers to these calls on one new machine, a list each."""
    return taken_apart(answers(line(calls)))
