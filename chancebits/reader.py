"""The object while it reads."""

from chancebits.parting import LEAST_WIDTH, Coder, part_of

FIRST_BYTES = 4


class Reader(Coder):
    """Bytes, how many of them were taken, and the number of 32 bits that they stand in."""

    def __init__(self, k, given):
        Coder.__init__(self, k)
        self.given = given
        self.taken = 0
        self.number = 0
        for turn in range(FIRST_BYTES):
            self.take()

    def take(self):
        """Draw the next byte into the number, 0 if there is none."""
        byte = 0
        if self.taken < len(self.given):
            byte = self.given[self.taken]
            self.taken += 1
        # Bytes that no writing made may leave a number above the width: its lower 24 bits alone stay.
        self.number = self.number % LEAST_WIDTH * 256 + byte

    def untaken(self):
        """How many of the bytes weren't read yet."""
        return len(self.given) - self.taken

    def next_bit(self, c):
        """The next bit by chance c, or evenly where c is None."""
        part = part_of(self.width, self.chance_at(c))
        bit = 0
        if self.number >= part:
            bit = 1
            self.number -= part
        self.narrow(c, bit)
        while self.width < LEAST_WIDTH:
            self.width = self.width * 256
            self.take()
        return bit

    def next_even(self, n):
        """The number of the next n bits, evenly, the highest first."""
        x = 0
        for turn in range(n):
            x = x * 2 + self.next_bit(None)
        return x

    def next_tree(self, c, n):
        """The number of the next n bits by the tree from chance c on."""
        m = 1
        for turn in range(n):
            m = m * 2 + self.next_bit(c + m - 1)
        return m - (1 << n)
