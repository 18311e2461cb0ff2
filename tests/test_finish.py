"""Promise 3: finish; and of promise 6 what it says of it."""

import unittest

from tests.words import answered, begin, bit, even, finish, opening, tree, whole, written_by_words


class Finish(unittest.TestCase):
    def test_a_fresh_object(self):
        self.assertEqual(answered(finish()), [[4, 0, 0, 0, 0]])
        self.assertEqual(answered(finish(4)), [[4, 0, 0, 0, 0]])
        self.assertEqual(answered(finish(3)), [[-1]])

    def test_most_as_many_as_the_bytes_and_one_less(self):
        calls = [begin(8), bit(7, 1), even(99, 31), tree(0, 3, 6)]
        given = written_by_words(calls)
        got = answered(*calls, finish(len(given)), finish(len(given) - 1), finish(len(given) + 1))
        self.assertEqual(got[-3:], [whole(given), [-1], whole(given)])

    def test_most_far_off(self):
        got = answered(finish(0), finish(-1), finish(-2147483648), finish(2147483647))
        self.assertEqual(got, [[-1], [-1], [-1], [4, 0, 0, 0, 0]])

    def test_more_is_told_behind_it(self):
        first = [begin(4), bit(3, 1), even(12345, 20)]
        more = [bit(3, 1), tree(0, 2, 2), even(4294967295, 32)]
        got = answered(*first, finish(), finish(), *more, finish())
        early = whole(written_by_words(first))
        self.assertEqual(got[3:5], [early, early])
        self.assertEqual(got[-1], whole(written_by_words(first + more)))

    def test_nothing_changes_where_most_is_less(self):
        calls = [bit(0, 1), even(500, 10)]
        got = answered(calls[0], finish(0), calls[1], finish(4), finish())
        self.assertEqual(got, [[0], [-1], [0], [-1], whole(written_by_words(calls))])

    def test_refused_where_the_object_reads(self):
        for given in ([], [1, 2, 3, 4, 5]):
            got = answered(opening(1, given), finish(), finish(2147483647))
            self.assertEqual(got, [[0], [-2], [-2]])

    def test_refused_comes_before_too_little_room(self):
        self.assertEqual(answered(opening(1, [1]), finish(0), finish(3), finish(-5)), [[0], [-2], [-2], [-2]])


if __name__ == "__main__":
    unittest.main()
