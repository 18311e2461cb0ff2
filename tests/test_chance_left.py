"""Promise 5: chance and left; and of promise 6 what it says of them."""

import copy
import unittest

from chancebits.desk import Desk, answer_chance, answer_get_even, answer_left, answer_open
from tests.lines import Steps, written_line
from tests.words import answered, begin, bit, chance, even, finish, get, get_even, get_tree, getting, left, opening
from tests.words import tree, whole, written_by_words

FAR = (-2147483648, 2147483647)


class Chance(unittest.TestCase):
    def test_at_first(self):
        self.assertEqual(answered(chance(0), chance(1)), [[1024], [-2]])
        for k in (1, 2, 4096):
            for start in (begin(k), opening(k, []), opening(k, [255] * 9)):
                got = answered(start, chance(0), chance(k - 1), chance(k))
                self.assertEqual(got, [[0], [1024], [1024], [-2]])

    def test_behind_bits_that_are_told(self):
        # 1024 + 1024 / 32 = 1056, 1056 + 992 / 32 = 1087; 1024 - 32 = 992, 992 - 31 = 961.
        got = answered(begin(3), bit(0, 0), chance(0), bit(0, 0), chance(0), bit(2, 1), chance(2), bit(2, 1), chance(2),
                       chance(1))
        self.assertEqual(got[2::2], [[1056], [1087], [992], [961]])
        self.assertEqual(got[-1], [1024])

    def test_behind_bits_that_are_read(self):
        got = answered(opening(3, [0] * 4), get(0), chance(0), get(0), chance(0), chance(1))
        self.assertEqual(got[1:], [[0], [1056], [0], [1087], [1024]])
        got = answered(opening(3, [255] * 4), get(2), chance(2), get(2), chance(2), chance(1))
        self.assertEqual(got[1:], [[1], [992], [1], [961], [1024]])

    def test_behind_trees(self):
        asked = [chance(c) for c in range(4)]
        self.assertEqual(answered(begin(4), tree(1, 2, 2), *asked)[2:], [[1024], [992], [1024], [1056]])
        given = written_by_words([begin(4), tree(1, 2, 2)])
        self.assertEqual(answered(opening(4, given), get_tree(1, 2), *asked)[1:],
                         [[2], [1024], [992], [1024], [1056]])

    def test_where_nothing_more_is_learned(self):
        self.assertEqual(answered(*[bit(0, 0)] * 399, chance(0))[-1], [2017])
        self.assertEqual(answered(*[bit(0, 1)] * 399, chance(0))[-1], [31])
        self.assertEqual(answered(opening(1, []), *[get(0)] * 398, chance(0))[-1], [2017])
        self.assertEqual(answered(opening(1, [255] * 4), *[get(0)] * 398, chance(0))[-1], [31])

    def test_even_bits_leave_them(self):
        self.assertEqual(answered(even(4294967295, 32), chance(0)), [[0], [1024]])
        self.assertEqual(answered(opening(1, [200] * 9), get_even(32), chance(0))[2], [1024])

    def test_begin_and_open_start_anew(self):
        got = answered(bit(0, 1), chance(0), begin(1), chance(0), bit(0, 0), opening(1, []), chance(0), get(0),
                       chance(0), opening(1, []), chance(0), get(0), begin(1), chance(0))
        self.assertEqual([got[at] for at in (1, 3, 6, 8, 10, 13)], [[992], [1024], [1024], [1056], [1024], [1024]])

    def test_refused_begin_and_open_leave_them(self):
        got = answered(begin(2), bit(1, 1), begin(0), opening(4097, [1]), chance(1))
        self.assertEqual(got[2:], [[-2], [-2], [992]])

    def test_asking_changes_nothing(self):
        told = [begin(3), bit(2, 1), even(9, 20), bit(2, 0)]
        got = answered(begin(3), chance(2), bit(2, 1), chance(2), even(9, 20), chance(0), bit(2, 0), chance(2),
                       finish())
        self.assertEqual(got[-1], whole(written_by_words(told)))

    def test_numbers_not_as_told(self):
        wrong = [chance(c) for c in (-1, -3, 3, 4, 4096) + FAR]
        for call in wrong:
            told = [begin(3), bit(2, 1)]
            got = answered(*told, call, chance(2), bit(2, 1), finish())
            self.assertEqual(got[2:], [[-2], [992], [0], whole(written_by_words(told + [bit(2, 1)]))], call)
        desk = Desk()
        answer_open(desk, opening(3, [200, 100, 50, 25, 12, 6]))
        answer_get_even(desk, get_even(9))
        before = copy.deepcopy(desk.coder).__dict__
        for call in wrong:
            self.assertEqual(answer_chance(desk, call), [-2], call)
            self.assertEqual(desk.coder.__dict__, before, call)


class Left(unittest.TestCase):
    def test_the_first_four_bytes_are_read_at_once(self):
        for size, rest in ((0, 0), (1, 0), (2, 0), (3, 0), (4, 0), (5, 1), (6, 2), (20000, 19996)):
            for k in (1, 4096):
                self.assertEqual(answered(opening(k, [9] * size), left(), left()), [[0], [rest], [rest]])

    def test_one_less_where_the_width_grows(self):
        # 7 halvings leave 2^25 - 1, 8 leave 2^24 - 1, which grows.
        got = answered(opening(1, [9] * 7), get_even(7), left(), get_even(1), left(), get_even(8), left(), get_even(0),
                       left(), get_even(8), left())
        self.assertEqual(got[2::2], [[3], [2], [1], [1], [0]])

    def test_past_the_last_byte(self):
        for size in (0, 1, 3, 4, 5, 7):
            got = answered(opening(7, [255] * size), get_even(32), left(), get_even(32), left(),
                           *[get_tree(0, 3)] * 50, left(), *[get(0)] * 50, left())
            self.assertEqual([got[2], got[4], got[-52], got[-1]], [[0]] * 4)

    def test_bits_that_take_no_room_leave_them(self):
        self.assertEqual(answered(opening(7, [9] * 5), get(0), left(), get_tree(0, 3), left(), chance(0), left())[2::2],
                         [[1], [1], [1]])

    def test_as_many_as_were_written_later(self):
        """What is left behind each call is what the writing had still to come there."""
        numbers = Steps(23)
        for turn in range(20):
            calls = written_line(numbers, 100)
            wrote = answered(calls[0], finish(), *[one for call in calls[1:] for one in (call, finish())])[1::2]
            read = answered(opening(calls[0][1], wrote[-1][1:]), left(),
                            *[one for call in calls[1:] for one in (getting(call), left())])[1::2]
            self.assertEqual(read, [[wrote[-1][0] - early[0]] for early in wrote])

    def test_open_again(self):
        got = answered(opening(1, [9] * 9), get_even(20), left(), opening(1, [9] * 6), left(), opening(0, [9] * 50),
                       left())
        self.assertEqual(got[2:], [[3], [0], [2], [-2], [2]])

    def test_refused_where_the_object_writes(self):
        self.assertEqual(answered(left(), finish()), [[-2], [4, 0, 0, 0, 0]])
        told = [begin(2), bit(1, 1), even(3, 30)]
        got = answered(*told, left(), left(), bit(1, 1), finish())
        self.assertEqual(got[3:], [[-2], [-2], [0], whole(written_by_words(told + [bit(1, 1)]))])
        self.assertEqual(answered(opening(1, [9] * 9), left(), begin(1), left()), [[0], [5], [0], [-2]])

    def test_asking_changes_nothing(self):
        desk = Desk()
        answer_open(desk, opening(3, [200, 100, 50, 25, 12, 6]))
        answer_get_even(desk, get_even(9))
        before = copy.deepcopy(desk.coder).__dict__
        self.assertEqual(answer_left(desk, left()), [1])
        self.assertEqual(desk.coder.__dict__, before)


class WhereItReads(unittest.TestCase):
    """Of promise 6: bit, even, tree and finish are refused there, and reading goes on as without them."""

    def test_refused_with_nothing_changed(self):
        opened = opening(7, [200, 100, 50, 25, 12, 6])
        behind = [left(), get(0), chance(0), get_tree(0, 3), get_even(32), left()]
        fresh = answered(opened, get(6), *behind)
        for call in (bit(0, 1), bit(6, 0), bit(7, 2), even(1, 1), even(0, 0), even(1, 33), tree(0, 3, 5), tree(0, 4, 0),
                     finish(), finish(0), finish(-1)):
            got = answered(opened, get(6), call, *behind)
            self.assertEqual(got, fresh[:2] + [[-2]] + fresh[2:], call)


if __name__ == "__main__":
    unittest.main()
