"""The machine: what it holds, and which numbers fit where."""

DRUM_SIZE = 2000
LARGEST_WORD = 9999999999


def is_address(number):
    return 0 <= number < DRUM_SIZE


def is_word(number):
    return -LARGEST_WORD <= number <= LARGEST_WORD


class Machine:
    """One machine; n, t, a and d are what the document calls N, T, A and D."""

    def __init__(self):
        self.begin(0)

    def begin(self, start):
        self.state = 0
        self.over = 0
        self.n = start
        self.t = 0
        self.a = 0
        self.d = 0
        self.drum = [0] * DRUM_SIZE
