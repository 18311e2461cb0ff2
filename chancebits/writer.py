"""The object while it writes."""

from chancebits.parting import LEAST_WIDTH, Coder, part_of, width_behind

MOST_BYTES = 1048576
LOWEST_BYTES = 4
# 2 to the 32nd: what the lowest four bytes can't hold any more.
LOWEST_END = 4294967296


def even_steps(x, n):
    """The n lowest bits of x, the highest first, each told evenly."""
    return [(None, x >> place & 1) for place in range(n - 1, -1, -1)]


def tree_steps(c, n, x):
    """The n bits of x, the highest first, each with its chance in the tree from chance c on."""
    steps = []
    m = 1
    for place in range(n - 1, -1, -1):
        bit = x >> place & 1
        steps.append((c + m - 1, bit))
        m = m * 2 + bit
    return steps


class Writer(Coder):
    """A number that grows to the right as bits are told.

    The number is kept as its higher bytes and its lowest four, so that a bit
    doesn't cost the length of all that was written before it.
    """

    def __init__(self, k):
        Coder.__init__(self, k)
        self.higher = []
        self.lowest = 0

    def tell(self, steps):
        """Tell all steps, pairs of a chance's number and a bit; or none, and False, if they don't fit."""
        if self.length_behind(steps) > MOST_BYTES:
            return False
        for c, bit in steps:
            self.tell_step(c, bit)
        return True

    def length_behind(self, steps):
        """How many bytes there would be behind these steps.

        No chance stands twice in one call's steps, so what is learned on the
        way doesn't matter here.
        """
        width = self.width
        length = len(self.higher) + LOWEST_BYTES
        for c, bit in steps:
            width = width_behind(width, self.chance_at(c), bit)
            while width < LEAST_WIDTH:
                width = width * 256
                length += 1
        return length

    def tell_step(self, c, bit):
        if bit == 1:
            self.skip(part_of(self.width, self.chance_at(c)))
        self.narrow(c, bit)
        while self.width < LEAST_WIDTH:
            self.grow()

    def skip(self, part):
        self.lowest += part
        if self.lowest >= LOWEST_END:
            self.lowest -= LOWEST_END
            self.carry()

    def carry(self):
        """Add one to the higher bytes.

        The number and the width together never pass what all the bytes hold,
        so there is always a byte below 255 that takes the one.
        """
        place = len(self.higher) - 1
        while self.higher[place] == 255:
            self.higher[place] = 0
            place -= 1
        self.higher[place] += 1

    def grow(self):
        self.width = self.width * 256
        self.higher.append(self.lowest // LEAST_WIDTH)
        self.lowest = self.lowest % LEAST_WIDTH * 256

    def written(self):
        """The bytes of the number, the highest first."""
        return self.higher + [self.lowest >> shift & 255 for shift in (24, 16, 8, 0)]
