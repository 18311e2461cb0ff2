"""Lines of calls that look mixed and are the same each time."""

from tests.words import begin, bit, chance, even, finish, get, get_even, get_tree, left, opening, tree

COUNTS = (1, 2, 40, 300, 4096)


class Steps:
    """Numbers that look mixed and are the same each time."""

    def __init__(self, seed):
        self.state = seed

    def below(self, end):
        self.state = (self.state * 6364136223846793005 + 1442695040888963407) % 2 ** 64
        return (self.state >> 32) % end

    def one_of(self, choices):
        return choices[self.below(len(choices))]


def tree_within(numbers, k):
    """A pair of c and n whose tree lies within k chances."""
    n = 1 + numbers.below(min(12, (k + 1).bit_length() - 1))
    return numbers.below(k - 2 ** n + 2), n


def written_line(numbers, most=390):
    """A begin, then bits, even numbers and trees that are told."""
    k = numbers.one_of(COUNTS)
    slant = numbers.below(11)
    calls = [begin(k)]
    for turn in range(numbers.below(most)):
        kind = numbers.below(3)
        if kind == 0:
            calls.append(bit(numbers.below(min(k, 5)), 1 if numbers.below(10) < slant else 0))
        elif kind == 1:
            calls.append(even(numbers.below(2 ** 32), numbers.below(33)))
        else:
            c, n = tree_within(numbers, k)
            calls.append(tree(c, n, numbers.below(2 ** n)))
    return calls


def some_bytes(numbers):
    """Bytes that no writing needs to have made, few or many, all alike or mixed."""
    size = numbers.one_of((0, 1, 2, 3, 4, 5, 6, 9, 40, 300))
    if numbers.below(3) == 0:
        return [numbers.one_of((0, 127, 128, 255))] * size
    return [numbers.below(256) for turn in range(size)]


def read_line(numbers):
    """An open, then calls that read, all as told."""
    k = numbers.one_of(COUNTS)
    calls = [opening(k, some_bytes(numbers))]
    for turn in range(numbers.below(390)):
        c, n = tree_within(numbers, k)
        makers = (get(numbers.below(min(k, 5))), get_even(numbers.below(33)), get_tree(c, n),
                  chance(numbers.below(min(k, 5))), left())
        calls.append(numbers.one_of(makers))
    return calls


def any_line(numbers):
    """Calls of all kinds, with numbers as told and not."""
    calls = []
    for turn in range(1 + numbers.below(400)):
        if numbers.below(25) == 0:
            k = numbers.one_of((1, 1, 2, 3, 7, 8, 4096, 0, 4097, -1))
            calls.append(numbers.one_of((begin(k), opening(k, some_bytes(numbers)), opening(k, some_bytes(numbers)))))
            continue
        c = numbers.one_of((0, 0, 1, 2, 3, 6, 7, 8, 4095, 4096, -1, 2147483647, -2147483648))
        n = numbers.one_of((0, 1, 1, 2, 2, 3, 4, 12, 13, 32, 33, -1, 2147483647, -2147483648))
        x = numbers.one_of((0, 1, 2, 3, 5, 4095, 4096, 2147483647))
        makers = (bit(c, numbers.one_of((0, 0, 1, 1, 2, -1))), even(numbers.below(2 ** 32), n), tree(c, n, x),
                  finish(numbers.one_of((3, 4, 5, 100, 2147483647))),
                  get(c), get(c), get_even(n), get_tree(c, n), get_tree(c, n), chance(c), left())
        calls.append(numbers.one_of(makers))
    return calls
