"""The document's words taken literally: one number of any size, and a number of 32 bits that reads it.

It shares nothing with the package, so that the tests hold the package to the words.
"""

from chancebits.desk import answers


class Written:
    def __init__(self, k=1):
        self.chances = [1024] * k
        self.number = 0
        self.width = 2 ** 32 - 1
        self.g = 0

    def grow(self):
        while self.width < 2 ** 24:
            self.width *= 256
            self.number *= 256
            self.g += 1

    def bit(self, c, bit):
        p = self.chances[c]
        part = self.width // 2048 * p
        if bit == 0:
            self.width = part
            self.chances[c] = p + (2048 - p) // 32
        else:
            self.width = self.width - part
            self.number += part
            self.chances[c] = p - p // 32
        self.grow()

    def even(self, x, n):
        for digit in bits_of(x, n):
            part = self.width // 2
            self.width = part
            if digit == "1":
                self.number += part
            self.grow()

    def tree(self, c, n, x):
        before = ""
        for digit in bits_of(x, n):
            m = int("1" + before, 2)
            self.bit(c + m - 1, int(digit))
            before += digit

    def finish(self):
        return list(self.number.to_bytes(self.g + 4, "big"))


class Read:
    def __init__(self, k, given):
        self.chances = [1024] * k
        self.width = 2 ** 32 - 1
        self.number = int.from_bytes(bytes((given + [0] * 4)[:4]), "big")
        self.rest = given[4:]

    def grow(self):
        while self.width < 2 ** 24:
            self.width *= 256
            self.number = self.number % 2 ** 24 * 256 + (self.rest.pop(0) if self.rest else 0)

    def bit(self, c):
        p = self.chances[c]
        part = self.width // 2048 * p
        if self.number < part:
            bit = 0
            self.width = part
            self.chances[c] = p + (2048 - p) // 32
        else:
            bit = 1
            self.number -= part
            self.width -= part
            self.chances[c] = p - p // 32
        self.grow()
        return bit

    def even(self, n):
        x = 0
        for turn in range(n):
            part = self.width // 2
            bit = 0 if self.number < part else 1
            self.number -= part * bit
            self.width = part
            x = x * 2 + bit
            self.grow()
        return x

    def tree(self, c, n):
        m = 1
        for turn in range(n):
            m = m * 2 + self.bit(c + m - 1)
        return m - 2 ** n


def bits_of(x, n):
    """The n lowest bits of x as a text of 0 and 1, the highest first."""
    return "".join(str(x >> place & 1) for place in reversed(range(n)))


def begin(k):
    return [0, k]


def bit(c, bit):
    return [1, c, bit]


def even(x, n):
    return [2, x, n]


def tree(c, n, x):
    return [3, c, n, x]


def finish(most=1048576):
    return [4, most]


def opening(k, given):
    return [5, k, len(given)] + given


def answered(*calls):
    """The calls' answers, one list each."""
    flat = answers([number for call in calls for number in call])
    parted = []
    at = 0
    while at < len(flat):
        end = at + 1 + flat[at]
        parted.append(flat[at + 1:end])
        at = end
    return parted


def whole(given):
    """What finish answers for these bytes."""
    return [len(given)] + given


def written_by_words(calls):
    """The bytes that the words ask for behind calls of begin, bit, even and tree."""
    words = Written()
    for call in calls:
        if call[0] == 0:
            words = Written(call[1])
        else:
            {1: words.bit, 2: words.even, 3: words.tree}[call[0]](*call[1:])
    return words.finish()
