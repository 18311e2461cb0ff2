"""How a bit parts a width and what its chance learns: writing and reading must agree on it."""

SCALE = 2048
FIRST_CHANCE = 1024
FIRST_WIDTH = 4294967295
# 2 to the 24th: a width below it grows.
LEAST_WIDTH = 16777216


def part_of(width, chance):
    """The part that a bit 0 keeps; a chance of None stands for a bit that is told evenly."""
    if chance is None:
        return width // 2
    return width // SCALE * chance


def width_behind(width, chance, bit):
    """The width that the bit leaves, before it grows."""
    part = part_of(width, chance)
    # Evenly told, either bit keeps the half, so an odd width loses one.
    if bit == 0 or chance is None:
        return part
    return width - part


def learned(chance, bit):
    """The chance behind the bit."""
    if bit == 0:
        return chance + (SCALE - chance) // 32
    return chance - chance // 32


class Coder:
    """What the object has whether it writes or reads: its chances and the width that is left."""

    def __init__(self, k):
        self.chances = [FIRST_CHANCE] * k
        self.width = FIRST_WIDTH

    def chance_at(self, c):
        """Chance c, or None where c is None: evenly."""
        if c is None:
            return None
        return self.chances[c]

    def narrow(self, c, bit):
        """Leave the width behind the bit, before it grows, and let chance c learn from it."""
        chance = self.chance_at(c)
        self.width = width_behind(self.width, chance, bit)
        if c is not None:
            self.chances[c] = learned(chance, bit)
