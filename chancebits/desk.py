"""The desk: calls on one object come in as whole numbers, their answers go out as whole numbers."""

from chancebits.reader import Reader
from chancebits.writer import Writer, even_steps, tree_steps

DONE = 0
NO_ROOM = -1
REFUSED = -2

MOST_CHANCES = 4096
MOST_GIVEN = 20000
MOST_EVEN_BITS = 32
MOST_EVEN_NUMBER = 4294967295
MOST_TREE_BITS = 12

OPEN_CALL = 5
# How many numbers a call has with its own number, without its row.
CALL_LENGTHS = (2, 3, 3, 4, 2, 3, 2, 2, 3, 2, 1)


class Desk:
    """Keeps the one object that the calls are about: it writes or it reads."""

    def __init__(self):
        self.coder = Writer(1)

    def writes(self):
        return isinstance(self.coder, Writer)

    def tell(self, steps):
        if self.coder.tell(steps):
            return [DONE]
        return [NO_ROOM]


def is_chance_count(k):
    return 1 <= k <= MOST_CHANCES


def is_chance(desk, c):
    return 0 <= c < len(desk.coder.chances)


def is_even_count(n):
    return 0 <= n <= MOST_EVEN_BITS


def is_tree(desk, c, n):
    """Whether a tree of n bits from chance c on lies within the chances."""
    if c < 0 or not 1 <= n <= MOST_TREE_BITS:
        return False
    return c + (1 << n) - 1 <= len(desk.coder.chances)


def answer_begin(desk, call):
    k = call[1]
    if not is_chance_count(k):
        return [REFUSED]
    desk.coder = Writer(k)
    return [DONE]


def answer_bit(desk, call):
    c = call[1]
    bit = call[2]
    if not desk.writes() or not is_chance(desk, c) or not 0 <= bit <= 1:
        return [REFUSED]
    return desk.tell([(c, bit)])


def answer_even(desk, call):
    x = call[1]
    n = call[2]
    if not desk.writes() or not 0 <= x <= MOST_EVEN_NUMBER or not is_even_count(n):
        return [REFUSED]
    return desk.tell(even_steps(x, n))


def answer_tree(desk, call):
    c = call[1]
    n = call[2]
    x = call[3]
    if not desk.writes() or not is_tree(desk, c, n) or not 0 <= x < (1 << n):
        return [REFUSED]
    return desk.tell(tree_steps(c, n, x))


def answer_finish(desk, call):
    most = call[1]
    if not desk.writes():
        return [REFUSED]
    written = desk.coder.written()
    if most < len(written):
        return [NO_ROOM]
    return [len(written)] + written


def answer_open(desk, call):
    k = call[1]
    given = call[3:]
    if not is_chance_count(k) or len(given) > MOST_GIVEN:
        return [REFUSED]
    if not all([0 <= byte <= 255 for byte in given]):
        return [REFUSED]
    desk.coder = Reader(k, given)
    return [DONE]


def answer_get(desk, call):
    c = call[1]
    if desk.writes() or not is_chance(desk, c):
        return [REFUSED]
    return [desk.coder.next_bit(c)]


def answer_get_even(desk, call):
    n = call[1]
    if desk.writes() or not is_even_count(n):
        return [REFUSED]
    return [DONE, desk.coder.next_even(n)]


def answer_get_tree(desk, call):
    c = call[1]
    n = call[2]
    if desk.writes() or not is_tree(desk, c, n):
        return [REFUSED]
    return [desk.coder.next_tree(c, n)]


def answer_chance(desk, call):
    c = call[1]
    if not is_chance(desk, c):
        return [REFUSED]
    return [desk.coder.chances[c]]


def answer_left(desk, call):
    if desk.writes():
        return [REFUSED]
    return [desk.coder.untaken()]


# In the order of the calls' numbers.
ANSWERERS = (answer_begin, answer_bit, answer_even, answer_tree, answer_finish, answer_open,
             answer_get, answer_get_even, answer_get_tree, answer_chance, answer_left)


def end_of_call(calls, start):
    """Where the call that begins at start ends."""
    end = start + CALL_LENGTHS[calls[start]]
    if calls[start] == OPEN_CALL:
        end += calls[end - 1]
    return end


def answers(calls):
    """What the calls answer, one behind another: for each how many numbers, then they."""
    desk = Desk()
    answered = []
    start = 0
    while start < len(calls):
        end = end_of_call(calls, start)
        answer = ANSWERERS[calls[start]](desk, calls[start:end])
        answered.append(len(answer))
        answered.extend(answer)
        start = end
    return answered
