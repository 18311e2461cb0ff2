"""Promise 1: begin and open."""

import unittest

from chancebits.desk import Desk, answer_begin, answer_open
from chancebits.reader import Reader
from tests.words import answered, begin, bit, even, finish, opening, tree, whole, written_by_words

WRONG_COUNTS = (0, -1, 4097, -4096, 2147483647, -2147483648)
FRESH = [4, 0, 0, 0, 0]


class Begin(unittest.TestCase):
    def test_least_and_most_chances(self):
        for k in (1, 2, 4095, 4096):
            self.assertEqual(answered(begin(k), finish()), [[0], FRESH])

    def test_has_k_chances(self):
        for k in (1, 2, 4096):
            self.assertEqual(answered(begin(k), bit(k - 1, 1), bit(k, 1)), [[0], [0], [-2]])

    def test_before_the_first_call_it_writes_with_one_chance(self):
        self.assertEqual(answered(bit(1, 1), bit(0, 1), finish()), [[-2], [0], [4, 127, 255, 252, 0]])

    def test_again_on_a_used_object(self):
        first = answered(begin(2), bit(1, 1), finish())
        used = answered(begin(2), tree(0, 1, 1), even(77, 30), bit(1, 1), begin(2), bit(1, 1), finish())
        self.assertEqual(used[-3:], first)

    def test_again_with_fewer_chances(self):
        self.assertEqual(answered(begin(9), bit(8, 0), begin(8), bit(8, 0)), [[0], [0], [0], [-2]])

    def test_a_reading_object_writes_again(self):
        self.assertEqual(answered(opening(3, [9, 9]), begin(1), finish()), [[0], [0], FRESH])

    def test_wrong_counts_change_nothing(self):
        before = [begin(3), bit(2, 1), even(5, 20)]
        expected = whole(written_by_words(before + [bit(2, 1)]))
        for k in WRONG_COUNTS:
            self.assertEqual(answered(*before, begin(k), bit(2, 1), finish())[3:], [[-2], [0], expected])

    def test_wrong_counts_leave_a_reading_object_reading(self):
        for k in WRONG_COUNTS:
            self.assertEqual(answered(opening(1, [1]), begin(k), finish()), [[0], [-2], [-2]])


class Open(unittest.TestCase):
    def test_answers_0_and_reads(self):
        for given in ([], [0], [255], [1, 2, 3, 4], [5] * 20000):
            for k in (1, 4096):
                self.assertEqual(answered(opening(k, given), finish()), [[0], [-2]])

    def test_wrong_counts_change_nothing(self):
        before = [begin(3), bit(2, 1), even(5, 20)]
        expected = whole(written_by_words(before + [bit(2, 1)]))
        for k in WRONG_COUNTS:
            for given in ([], [7, 8, 9]):
                calls = before + [opening(k, given), bit(2, 1), finish()]
                self.assertEqual(answered(*calls)[3:], [[-2], [0], expected])

    def test_wrong_counts_leave_the_bytes_that_are_read(self):
        desk = Desk()
        self.assertEqual(answer_open(desk, opening(2, [1, 2, 3, 4, 5])), [0])
        for k in WRONG_COUNTS:
            self.assertEqual(answer_open(desk, opening(k, [6, 7])), [-2])
            self.assertEqual(desk.coder.given, [1, 2, 3, 4, 5])
            self.assertEqual(desk.coder.chances, [1024, 1024])

    def test_again_reads_the_new_bytes(self):
        desk = Desk()
        answer_open(desk, opening(2, [1, 2, 3, 4, 5]))
        answer_open(desk, opening(1, [6]))
        self.assertEqual(desk.coder.number, 6 * 2 ** 24)
        self.assertEqual(desk.coder.chances, [1024])

    def test_bytes_not_as_told(self):
        for given in ([-1], [256], [0, 0, 300], [0] * 20001):
            self.assertEqual(answered(opening(1, given), finish()), [[-2], FRESH])

    def test_the_calls_behind_the_row_are_found(self):
        calls = [opening(1, [0, 4, 5]), begin(1), opening(1, []), begin(1), finish()]
        self.assertEqual(answered(*calls), [[0], [0], [0], [0], FRESH])


class HeldFirst(unittest.TestCase):
    def test_a_writing_object(self):
        desk = Desk()
        for k in (1, 4096):
            answer_begin(desk, begin(k))
            self.assertEqual(desk.coder.chances, [1024] * k)
            self.assertEqual(desk.coder.width, 2 ** 32 - 1)
            self.assertEqual(desk.coder.written(), [0, 0, 0, 0])

    def test_a_reading_object(self):
        numbers = (([], 0), ([200], 0xC8000000), ([1, 2], 0x01020000), ([1, 2, 3], 0x01020300),
                   ([1, 2, 3, 255], 0x010203FF), ([255, 254, 253, 252, 251, 250], 0xFFFEFDFC))
        for given, number in numbers:
            reader = Reader(3, given)
            self.assertEqual(reader.number, number)
            self.assertEqual(reader.width, 2 ** 32 - 1)
            self.assertEqual(reader.chances, [1024] * 3)
            self.assertEqual(reader.taken, min(4, len(given)))


if __name__ == "__main__":
    unittest.main()
