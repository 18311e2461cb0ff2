"""The document's words taken literally: one number of any size, and a number of 32 bits that reads it.

It shares nothing with the package, so that the tests hold the package to the words.
"""

from chancebits.desk import answers


class Written:
    def __init__(self, k=1):
        self.chances = [1024] * k
        self.number = 0
        self.width = 2 ** 32 - 1
        self.g = 0

    def grow(self):
        while self.width < 2 ** 24:
            self.width *= 256
            self.number *= 256
            self.g += 1

    def bit(self, c, bit):
        p = self.chances[c]
        part = self.width // 2048 * p
        if bit == 0:
            self.width = part
            self.chances[c] = p + (2048 - p) // 32
        else:
            self.width = self.width - part
            self.number += part
            self.chances[c] = p - p // 32
        self.grow()

    def even(self, x, n):
        for digit in bits_of(x, n):
            part = self.width // 2
            self.width = part
            if digit == "1":
                self.number += part
            self.grow()

    def tree(self, c, n, x):
        before = ""
        for digit in bits_of(x, n):
            m = int("1" + before, 2)
            self.bit(c + m - 1, int(digit))
            before += digit

    def finish(self):
        return list(self.number.to_bytes(self.g + 4, "big"))


class Read:
    def __init__(self, k, given):
        self.chances = [1024] * k
        self.width = 2 ** 32 - 1
        self.number = int.from_bytes(bytes((given + [0] * 4)[:4]), "big")
        self.rest = given[4:]

    def grow(self):
        while self.width < 2 ** 24:
            self.width *= 256
            self.number = self.number % 2 ** 24 * 256 + (self.rest.pop(0) if self.rest else 0)

    def bit(self, c):
        p = self.chances[c]
        part = self.width // 2048 * p
        if self.number < part:
            bit = 0
            self.width = part
            self.chances[c] = p + (2048 - p) // 32
        else:
            bit = 1
            self.number -= part
            self.width -= part
            self.chances[c] = p - p // 32
        self.grow()
        return bit

    def even(self, n):
        x = 0
        for turn in range(n):
            part = self.width // 2
            bit = 0 if self.number < part else 1
            self.number -= part * bit
            self.width = part
            x = x * 2 + bit
            self.grow()
        return x

    def tree(self, c, n):
        m = 1
        for turn in range(n):
            m = m * 2 + self.bit(c + m - 1)
        return m - 2 ** n


def bits_of(x, n):
    """The n lowest bits of x as a text of 0 and 1, the highest first."""
    return "".join(str(x >> place & 1) for place in reversed(range(n)))


def begin(k):
    return [0, k]


def bit(c, bit):
    return [1, c, bit]


def even(x, n):
    return [2, x, n]


def tree(c, n, x):
    return [3, c, n, x]


def finish(most=1048576):
    return [4, most]


def opening(k, given):
    return [5, k, len(given)] + given


def get(c):
    return [6, c]


def get_even(n):
    return [7, n]


def get_tree(c, n):
    return [8, c, n]


def chance(c):
    return [9, c]


def left():
    return [10]


def getting(call):
    """The call that reads back what this call of bit, even or tree wrote."""
    if call[0] == 1:
        return get(call[1])
    if call[0] == 2:
        return get_even(call[2])
    return get_tree(call[1], call[2])


def got_back(call):
    """What reading back answers for this call of bit, even or tree."""
    if call[0] == 1:
        return [call[2]]
    if call[0] == 2:
        return [0, call[1] % 2 ** call[2]]
    return [call[3]]


def answered(*calls):
    """The calls' answers, one list each."""
    flat = answers([number for call in calls for number in call])
    parted = []
    at = 0
    while at < len(flat):
        end = at + 1 + flat[at]
        parted.append(flat[at + 1:end])
        at = end
    return parted


def whole(given):
    """What finish answers for these bytes."""
    return [len(given)] + given


def written_by_words(calls):
    """The bytes that the words ask for behind calls of begin, bit, even and tree."""
    words = Written()
    for call in calls:
        if call[0] == 0:
            words = Written(call[1])
        else:
            {1: words.bit, 2: words.even, 3: words.tree}[call[0]](*call[1:])
    return words.finish()


class Words:
    """The object of the calls, each answered as the words ask for it."""

    def __init__(self):
        self.coder = Written()

    def answer(self, call):
        names = ("begin", "bit", "even", "tree", "finish", "open", "get", "get_even", "get_tree", "chance", "left")
        name = names[call[0]]
        if name in ("bit", "even", "tree", "finish") and isinstance(self.coder, Read):
            return [-2]
        if name in ("get", "get_even", "get_tree", "left") and isinstance(self.coder, Written):
            return [-2]
        return getattr(self, name)(*call[1:])

    def has_tree(self, c, n):
        return n in range(1, 13) and c >= 0 and c + 2 ** n - 1 <= len(self.coder.chances)

    def has_chance(self, c):
        return c in range(len(self.coder.chances))

    def begin(self, k):
        if k not in range(1, 4097):
            return [-2]
        self.coder = Written(k)
        return [0]

    def open(self, k, count, *given):
        if k not in range(1, 4097):
            return [-2]
        self.coder = Read(k, list(given))
        return [0]

    def bit(self, c, bit):
        if not self.has_chance(c) or bit not in (0, 1):
            return [-2]
        self.coder.bit(c, bit)
        return [0]

    def even(self, x, n):
        if n not in range(33):
            return [-2]
        self.coder.even(x, n)
        return [0]

    def tree(self, c, n, x):
        if not self.has_tree(c, n) or x not in range(2 ** n):
            return [-2]
        self.coder.tree(c, n, x)
        return [0]

    def finish(self, most):
        given = self.coder.finish()
        return whole(given) if most >= len(given) else [-1]

    def get(self, c):
        return [self.coder.bit(c)] if self.has_chance(c) else [-2]

    def get_even(self, n):
        return [0, self.coder.even(n)] if n in range(33) else [-2]

    def get_tree(self, c, n):
        return [self.coder.tree(c, n)] if self.has_tree(c, n) else [-2]

    def chance(self, c):
        return [self.coder.chances[c]] if self.has_chance(c) else [-2]

    def left(self):
        return [len(self.coder.rest)]


def answered_by_words(*calls):
    words = Words()
    return [words.answer(call) for call in calls]
