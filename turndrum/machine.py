"""The machine: what it holds, and how its drum lies and turns."""

from turndrum.longs import is_long, lower_twenty

DRUM_SIZE = 2000
BAND_SIZE = 40
TICK_COUNT = 18446744073709551616


def is_address(number):
    return 0 <= number < DRUM_SIZE


def is_tick(number):
    return 0 <= number < TICK_COUNT


def next_around(address):
    """The next around the band."""
    following = address + 1
    return following if following % BAND_SIZE != 0 else following - BAND_SIZE


def band_from(drum, address):
    """The words of the address's band, from it on, around the band."""
    first = address - address % BAND_SIZE
    return drum[address:first + BAND_SIZE] + drum[first:address]


def waited(tick, address):
    """The first tick from this one on at which the address's place passes."""
    return tick + (address - tick) % BAND_SIZE


class Machine:
    """One machine; n, t, a and d are what the document calls N, T, A and D."""

    def __init__(self):
        self.begin(0)

    def begin(self, start):
        self.state = 0
        self.over = 0
        self.n = start
        self.t = 0
        self.a = 0
        self.d = 0
        self.drum = [0] * DRUM_SIZE

    def keep(self, number):
        """A becomes the number, or what is kept of it where it is no long."""
        if not is_long(number):
            self.over = 1
        self.a = lower_twenty(number)

    def pass_to(self, tick):
        """T becomes the tick, which within an order is counted on without end."""
        self.t = tick % TICK_COUNT
