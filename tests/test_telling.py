"""Promise 2: bit, even and tree; and of promise 6 what it says of them."""

import copy
import unittest

from chancebits.desk import Desk, answer_begin, answer_bit, answer_even, answer_finish, answer_open, answer_tree
from tests.lines import Steps, written_line
from tests.words import answered, answered_by_words, begin, bit, even, finish, getting, got_back, opening, tree
from tests.words import whole, written_by_words

FAR = (-2147483648, 2147483647)


class Checks(unittest.TestCase):
    def written(self, *calls):
        """The bytes behind these calls, all of which answer 0 and write what the words ask for."""
        got = answered(*calls, finish())
        self.assertEqual(got[:-1], [[0]] * len(calls))
        self.assertEqual(got[-1], whole(written_by_words(calls)))
        return got[-1][1:]

    def assert_refused(self, before, wrong, after):
        """The wrong calls answer -2, and what comes behind is as without them."""
        expected = whole(written_by_words(before + after))
        for call in wrong:
            got = answered(*before, call, *after, finish())
            self.assertEqual(got[len(before)], [-2], call)
            self.assertEqual(got[-1], expected, call)


class Bit(Checks):
    def test_one_bit(self):
        # part: 4294967295 / 2048 = 2097151, times 1024 = 2147482624 = 7F FF FC 00.
        self.assertEqual(self.written(bit(0, 1)), [127, 255, 252, 0])
        self.assertEqual(self.written(bit(0, 0)), [0, 0, 0, 0])

    def test_chance_learns_a_0(self):
        # The width is 2147482624, the chance 1024 + 1024 / 32 = 1056: 1048575 * 1056 = 1107295200 = 41 FF FB E0.
        self.assertEqual(self.written(bit(0, 0), bit(0, 1)), [0x41, 0xFF, 0xFB, 0xE0])

    def test_chance_learns_a_1(self):
        # The width is 2147484671, the chance 1024 - 32 = 992: 1048576 * 992 = 1040187392 = 3E 00 00 00.
        self.assertEqual(self.written(bit(0, 1), bit(0, 1)), [0xBD, 0xFF, 0xFC, 0x00])

    def test_each_chance_learns_by_itself(self):
        # Chance 1 is still 1024: 1048575 * 1024 = 1073740800 = 3F FF FC 00.
        self.assertEqual(self.written(begin(2), bit(0, 0), bit(1, 1)), [0x3F, 0xFF, 0xFC, 0x00])

    def test_nearly_certain_bits_take_nearly_no_room(self):
        for b in (0, 1):
            self.assertLess(len(self.written(*[bit(0, b)] * 390)), 10)

    def test_chances_end_where_nothing_is_learned(self):
        desk = Desk()
        for turn in range(400):
            answer_bit(desk, bit(0, 0))
        self.assertEqual(desk.coder.chances, [2017])
        for turn in range(400):
            answer_bit(desk, bit(0, 1))
        self.assertEqual(desk.coder.chances, [31])

    def test_first_and_last_chance(self):
        for k in (1, 2, 4096):
            self.written(begin(k), bit(0, 1), bit(k - 1, 0), bit(k - 1, 1), bit(0, 1))

    def test_numbers_not_as_told(self):
        wrong = [bit(c, 0) for c in (-1, 3, 4, 4096) + FAR]
        wrong += [bit(0, b) for b in (-1, 2, 256) + FAR]
        wrong += [bit(3, 2), bit(-1, -1)]
        self.assert_refused([begin(3), bit(2, 1), even(3, 9)], wrong, [bit(0, 1), bit(2, 1), bit(1, 0)])

    def test_no_chance_learns_from_a_refused_bit(self):
        desk = Desk()
        for call in (bit(0, 2), bit(0, -1), bit(-1, 1), bit(1, 1)):
            self.assertEqual(answer_bit(desk, call), [-2])
        self.assertEqual(desk.coder.chances, [1024])


class Even(Checks):
    def test_one_bit(self):
        self.assertEqual(self.written(even(1, 1)), [127, 255, 255, 255])
        self.assertEqual(self.written(even(0, 1)), [0, 0, 0, 0])

    def test_the_highest_first(self):
        # Halves: 2147483647, 1073741823, 536870911; a 1 adds its own.
        self.assertEqual(self.written(even(0b100, 3)), [0x7F, 0xFF, 0xFF, 0xFF])
        self.assertEqual(self.written(even(0b001, 3)), [0x1F, 0xFF, 0xFF, 0xFF])
        self.assertEqual(self.written(even(0b110, 3)), [0xBF, 0xFF, 0xFF, 0xFE])

    def test_the_lowest_bits_alone(self):
        self.assertEqual(self.written(even(0b1101, 2)), self.written(even(0b01, 2)))
        self.assertEqual(self.written(even(4294967295, 5)), self.written(even(31, 5)))

    def test_no_bits(self):
        for x in (0, 1, 4294967295):
            self.assertEqual(self.written(even(x, 0)), [0, 0, 0, 0])
            self.assertEqual(self.written(bit(0, 1), even(x, 0), bit(0, 1)), self.written(bit(0, 1), bit(0, 1)))

    def test_all_bits(self):
        # 9 halvings leave 2^23 - 1 behind 2^32 - 1, so the width grows by then; each 8 further ones, again.
        self.assertEqual(len(self.written(even(4294967295, 32))), 8)
        self.assertEqual(self.written(even(0, 32)), [0] * 8)
        self.written(even(2147483648, 32))
        self.written(even(1, 32))

    def test_grows_when_the_width_is_below_2_to_the_24th(self):
        # 8 halvings leave 2^24 - 1, which is below; 7 leave 2^25 - 1.
        self.assertEqual(len(self.written(even(0, 7))), 4)
        self.assertEqual(len(self.written(even(0, 8))), 5)

    def test_no_chance_learns(self):
        desk = Desk()
        answer_even(desk, even(4294967295, 32))
        self.assertEqual(desk.coder.chances, [1024])

    def test_numbers_not_as_told(self):
        wrong = [even(x, n) for x in (0, 6, 4294967295) for n in (-1, 33, 64) + FAR]
        wrong += [even(-1, 4), even(4294967296, 4)]
        self.assert_refused([even(3, 9), bit(0, 1)], wrong, [even(5, 3), bit(0, 1)])


class Tree(Checks):
    def test_one_bit_is_a_bit_by_chance_c(self):
        for x in (0, 1):
            same = self.written(begin(5), bit(3, x), bit(3, 1))
            self.assertEqual(self.written(begin(5), tree(3, 1, x), bit(3, 1)), same)

    def test_the_chances_on_the_way(self):
        # 101: the first by chance c, then m is 11 = 3, then 110 = 6.
        same = self.written(begin(9), bit(2, 1), bit(4, 0), bit(7, 1))
        self.assertEqual(self.written(begin(9), tree(2, 3, 0b101)), same)
        desk = Desk()
        answer_begin(desk, begin(9))
        answer_tree(desk, tree(2, 3, 0b101))
        self.assertEqual(desk.coder.chances, [1024, 1024, 992, 1024, 1056, 1024, 1024, 992, 1024])

    def test_trees_learn(self):
        self.written(begin(20), *[tree(c, 4, x) for c in (0, 5) for x in (3, 3, 12, 3, 15, 0)])

    def test_within_the_chances(self):
        for n in range(1, 13):
            size = 2 ** n - 1
            for x in (0, 2 ** n - 1, 2 ** n // 3):
                self.written(begin(size), tree(0, n, x), tree(0, n, x))
                self.written(begin(4096), tree(4096 - size, n, x), bit(4095, 1))
            self.assertEqual(answered(begin(size + 1), tree(1, n, 0), tree(2, n, 0)), [[0], [0], [-2]])
            if size > 1:
                self.assertEqual(answered(begin(size - 1), tree(0, n, 0)), [[0], [-2]])

    def test_most_bits(self):
        self.written(begin(4095), tree(0, 12, 4095))
        self.written(begin(4096), tree(1, 12, 4095), tree(0, 12, 2730))
        self.assertEqual(answered(begin(4096), tree(2, 12, 0))[1], [-2])

    def test_numbers_not_as_told(self):
        wrong = [tree(0, n, 0) for n in (-1, 0, 13, 32) + FAR]
        wrong += [tree(c, 3, 1) for c in (-1, 4090, 4096) + FAR]
        wrong += [tree(0, n, x) for n in (1, 2, 12) for x in (-1, 2 ** n, 2 ** n + 1) + FAR]
        wrong += [tree(-2147483648, -2147483648, -2147483648), tree(2147483647, 2147483647, 2147483647)]
        self.assert_refused([begin(4096), tree(0, 5, 9), even(3, 9)], wrong, [tree(0, 5, 9), tree(0, 12, 77)])

    def test_c_below_0_is_refused_even_where_its_end_fits(self):
        self.assertEqual(answered(begin(4), tree(-1, 2, 1), tree(-3, 3, 1)), [[0], [-2], [-2]])


class Together(Checks):
    def test_several_calls_on_one_object(self):
        calls = [begin(40), bit(0, 1), tree(1, 5, 21), even(123456789, 32), bit(0, 1), tree(1, 5, 20), even(6, 3)]
        self.written(*calls)

    def test_what_is_added_is_carried(self):
        # Behind the bit the number is 7F FF FC 00 and the width 80 00 03 FF; 8 halvings leave 80 00 03,
        # which grows to 80 00 03 00, twice. The number is 7F FF FC 00 00 00, and 40 00 01 80 is added.
        self.assertEqual(self.written(bit(0, 1), even(0, 16)), [0x7F, 0xFF, 0xFC, 0, 0, 0])
        self.assertEqual(self.written(bit(0, 1), even(0, 16), even(1, 1)), [0x80, 0x00, 0x3C, 0x00, 0x01, 0x80])

    def test_what_is_added_is_carried_over_several_bytes(self):
        told = "E0 C0 C0 E0 C0 E0 C1 C1 E1 C0 E0 C1 C0 E1 C1 C1 C0 C1 E0 C1 C0 E1 C0 C0".split()
        calls = [bit(0, int(name[1])) if name[0] == "C" else even(int(name[1]), 1) for name in told]
        self.assertEqual(self.written(*calls), [3, 255, 255, 223, 251, 25, 0])
        self.assertEqual(self.written(*calls, bit(0, 1))[:3], [4, 0, 0])

    def test_what_is_added_fills_the_lowest_bytes_exactly(self):
        desk = Desk()
        desk.coder.higher = [7, 255]
        desk.coder.lowest = 2 ** 31 + 1
        # The half of the width is 2^31 - 1.
        answer_even(desk, even(1, 1))
        self.assertEqual(answer_finish(desk, finish(6)), [6, 8, 0, 0, 0, 0, 0])

    def test_many_lines_of_mixed_calls(self):
        numbers = Steps(7)
        for turn in range(60):
            calls = written_line(numbers)
            self.assert_read_back(calls, self.written(*calls))

    def assert_read_back(self, calls, given):
        getters = [getting(call) for call in calls[1:]]
        got = answered_by_words(opening(calls[0][1], given), *getters)
        self.assertEqual(got[1:], [got_back(call) for call in calls[1:]])


class WhereItReads(Checks):
    def test_refused(self):
        for given in ([], [1, 2, 3, 4, 5, 6]):
            calls = [opening(4, given), bit(0, 1), bit(3, 0), even(1, 1), even(0, 0), tree(0, 2, 1)]
            self.assertEqual(answered(*calls), [[0]] + [[-2]] * 5)

    def test_refused_with_wrong_numbers_too(self):
        calls = [opening(4, [1]), bit(4, 2), even(1, 33), even(1, -1), tree(0, 0, 0), tree(-1, 13, -1)]
        self.assertEqual(answered(*calls), [[0]] + [[-2]] * 5)

    def test_nothing_changes(self):
        desk = Desk()
        answer_open(desk, opening(4, [1, 2, 3, 4, 5, 6]))
        before = copy.deepcopy(desk.coder).__dict__
        for answer, call in ((answer_bit, bit(0, 1)), (answer_even, even(1, 1)), (answer_tree, tree(0, 1, 1))):
            self.assertEqual(answer(desk, call), [-2])
            self.assertEqual(desk.coder.__dict__, before)


class Full(unittest.TestCase):
    """400 calls never fill 1048576 bytes, so the object is handed the bytes that stand before the last ones."""

    def full_desk(self, bytes_before):
        desk = Desk()
        answer_begin(desk, begin(4096))
        desk.coder.higher = [0] * bytes_before
        return desk

    def length(self, desk):
        return answer_finish(desk, finish(2147483647))[0]

    def assert_no_room(self, desk, answer, call):
        before = copy.deepcopy(desk.coder).__dict__
        self.assertEqual(answer(desk, call), [-1])
        self.assertEqual(desk.coder.__dict__, before)

    def test_up_to_the_last_byte(self):
        desk = self.full_desk(1048576 - 5)
        self.assertEqual(answer_even(desk, even(127, 15)), [0])
        self.assertEqual(self.length(desk), 1048576)
        self.assert_no_room(desk, answer_even, even(1, 1))
        self.assert_no_room(desk, answer_even, even(4294967295, 32))
        self.assert_no_room(desk, answer_bit, bit(0, 0))
        self.assert_no_room(desk, answer_tree, tree(0, 3, 5))
        self.assertEqual(answer_even(desk, even(1, 0)), [0])

    def test_bits_that_take_no_room_are_told(self):
        desk = self.full_desk(1048576 - 4)
        self.assertEqual(answer_bit(desk, bit(0, 1)), [0])
        self.assertEqual(answer_tree(desk, tree(0, 2, 1)), [0])
        self.assertEqual(answer_even(desk, even(0, 4)), [0])
        self.assertEqual(self.length(desk), 1048576)

    def test_none_of_a_call_is_told_where_its_last_bits_do_not_fit(self):
        desk = self.full_desk(1048576 - 4)
        self.assert_no_room(desk, answer_even, even(4294967295, 8))
        self.assert_no_room(desk, answer_tree, tree(0, 12, 2730))
        self.assertEqual(answer_even(desk, even(127, 7)), [0])

    def test_a_width_of_2_to_the_24th_does_not_grow(self):
        # Two halvings leave 2^23, which grows to 2^31; seven more leave 2^24, and one more grows again.
        desk = self.full_desk(1048576 - 5)
        desk.coder.width = 2 ** 25
        self.assert_no_room(desk, answer_even, even(0, 10))
        self.assertEqual(answer_even(desk, even(0, 9)), [0])
        self.assertEqual(desk.coder.width, 2 ** 24)
        self.assertEqual(self.length(desk), 1048576)

    def test_a_second_growth_counts(self):
        desk = self.full_desk(1048576 - 5)
        self.assert_no_room(desk, answer_even, even(0, 16))
        self.assertEqual(answer_even(desk, even(0, 15)), [0])

    def test_refused_comes_first(self):
        desk = self.full_desk(1048576 - 4)
        answer_even(desk, even(127, 7))
        self.assert_no_room(desk, answer_bit, bit(0, 0))
        wrong = ((answer_bit, bit(0, 2)), (answer_bit, bit(4096, 1)), (answer_even, even(1, 33)),
                 (answer_tree, tree(0, 13, 0)), (answer_tree, tree(0, 2, 4)), (answer_tree, tree(2, 12, 0)))
        for answer, call in wrong:
            self.assertEqual(answer(desk, call), [-2])


if __name__ == "__main__":
    unittest.main()
