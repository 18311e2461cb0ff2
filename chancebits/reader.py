"""The object while it reads."""

from chancebits.parting import FIRST_CHANCE, FIRST_WIDTH, LEAST_WIDTH

FIRST_BYTES = 4


class Reader:
    """Bytes, how many of them were taken, and the number of 32 bits that they stand in."""

    def __init__(self, k, given):
        self.chances = [FIRST_CHANCE] * k
        self.width = FIRST_WIDTH
        self.given = given
        self.taken = 0
        self.number = 0
        for turn in range(FIRST_BYTES):
            self.take()

    def take(self):
        """Draw the next byte into the number, 0 if there is none."""
        byte = 0
        if self.taken < len(self.given):
            byte = self.given[self.taken]
            self.taken += 1
        self.number = self.number % LEAST_WIDTH * 256 + byte
