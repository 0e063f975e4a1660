"""The cards of one run: those to be read, and those that are punched."""

from turndrum.machine import band_from, next_around

CARD_SIZE = 8


class Cards:
    """words are all that the run was handed; the first read_count cards of them are read."""

    def __init__(self, words):
        self.words = words
        self.read_count = 0
        self.punched = []

    def is_left(self):
        return self.read_count * CARD_SIZE < len(self.words)

    def read_to(self, drum, address):
        begin = self.read_count * CARD_SIZE
        place = address
        for word in self.words[begin:begin + CARD_SIZE]:
            drum[place] = word
            place = next_around(place)
        self.read_count += 1

    def punch_from(self, drum, address):
        self.punched.extend(band_from(drum, address)[:CARD_SIZE])
