"""Promise 4: get, get_even and get_tree; and of promise 6 what it says of them."""

import copy
import unittest

from chancebits.desk import Desk, answer_get, answer_get_even, answer_get_tree, answer_open
from tests.lines import Steps, any_line, read_line, written_line
from tests.words import answered, answered_by_words, begin, bit, chance, even, finish, get, get_even, get_tree
from tests.words import getting, got_back, left, opening, tree, whole, written_by_words

FAR = (-2147483648, 2147483647)
OTHERS = ([], [0], [255], [255, 255, 255], [255] * 4, [255] * 5, [255] * 40, [128, 0, 0, 0], [127, 255, 255, 255, 255])


class Checks(unittest.TestCase):
    def assert_as_words(self, *calls):
        """All calls answer as the words ask for; gives these answers back."""
        got = answered(*calls)
        self.assertEqual(got, answered_by_words(*calls))
        return got

    def assert_read_back(self, *calls):
        """What these calls of bit, even and tree write behind a begin is read back, with the same chances behind it."""
        k = calls[0][1]
        asked = [chance(c) for c in sorted({0, k // 2, k - 1})]
        wrote = answered(*calls, *asked, finish())
        given = wrote[-1][1:]
        read = answered(opening(k, given), *[getting(call) for call in calls[1:]], *asked, left())
        self.assertEqual(read[0], [0])
        self.assertEqual(read[1:len(calls)], [got_back(call) for call in calls[1:]])
        self.assertEqual(read[len(calls):-1], wrote[len(calls):-1])
        self.assertEqual(read[-1], [0])

    def assert_refused(self, before, wrong, after):
        """The wrong calls answer -2 alone, and what comes behind is as without them."""
        expected = answered_by_words(*before, *after)[len(before):]
        for call in wrong:
            got = answered(*before, call, *after)
            self.assertEqual(got[len(before)], [-2], call)
            self.assertEqual(got[len(before) + 1:], expected, call)

    def assert_object_stays(self, answer, wrong):
        desk = Desk()
        answer_open(desk, opening(7, [200, 100, 50, 25, 12, 6]))
        answer_get_even(desk, get_even(9))
        before = copy.deepcopy(desk.coder).__dict__
        for call in wrong:
            self.assertEqual(answer(desk, call), [-2], call)
            self.assertEqual(desk.coder.__dict__, before, call)


class Get(Checks):
    def test_0_below_the_part_and_1_from_it_on(self):
        # part: 4294967295 / 2048 = 2097151, times 1024 = 2147482624 = 7F FF FC 00.
        self.assertEqual(answered(opening(1, [0x7F, 0xFF, 0xFB, 0xFF]), get(0)), [[0], [0]])
        self.assertEqual(answered(opening(1, [0x7F, 0xFF, 0xFC, 0x00]), get(0)), [[0], [1]])

    def test_what_a_1_skips_is_taken_away(self):
        # The width is 2147484671, the chance 992, the part 1048576 * 992 = 3E 00 00 00; before it 7F FF FC 00.
        self.assertEqual(answered(opening(1, [0xBD, 0xFF, 0xFB, 0xFF]), get(0), get(0)), [[0], [1], [0]])
        self.assertEqual(answered(opening(1, [0xBD, 0xFF, 0xFC, 0x00]), get(0), get(0)), [[0], [1], [1]])

    def test_chance_learns_a_0(self):
        # The width is 2147482624, the chance 1056, the part 1048575 * 1056 = 41 FF FB E0.
        self.assertEqual(answered(opening(1, [0x41, 0xFF, 0xFB, 0xDF]), get(0), get(0)), [[0], [0], [0]])
        self.assertEqual(answered(opening(1, [0x41, 0xFF, 0xFB, 0xE0]), get(0), get(0)), [[0], [0], [1]])

    def test_each_chance_learns_by_itself(self):
        # Chance 1 is still 1024, the part 1048575 * 1024 = 3F FF FC 00.
        self.assertEqual(answered(opening(2, [0x3F, 0xFF, 0xFB, 0xFF]), get(0), get(1)), [[0], [0], [0]])
        self.assertEqual(answered(opening(2, [0x3F, 0xFF, 0xFC, 0x00]), get(0), get(1)), [[0], [0], [1]])

    def test_read_back(self):
        bits = [1, 0, 0, 1, 1, 1, 0, 1, 0, 0, 0, 0, 1]
        self.assert_read_back(begin(1), *[bit(0, b) for b in bits])
        self.assert_read_back(begin(3), *[bit(at % 3, b) for at, b in enumerate(bits)])
        for b in (0, 1):
            self.assert_read_back(begin(1), *[bit(0, b)] * 390)
            self.assert_read_back(begin(1), *[bit(0, b)] * 195, *[bit(0, 1 - b)] * 195)

    def test_first_and_last_chance(self):
        for k in (1, 2, 4096):
            self.assert_read_back(begin(k), bit(0, 1), bit(k - 1, 0), bit(k - 1, 1), bit(0, 1))
            self.assertEqual(answered(opening(k, [9]), get(k - 1), get(k))[2], [-2])

    def test_past_the_last_byte(self):
        # Bytes that aren't there are 0.
        for given in ([], [0], [0, 0, 0], [0] * 4, [0] * 5):
            self.assertEqual(answered(opening(1, given), *[get(0)] * 390)[1:], [[0]] * 390)
        for given in OTHERS:
            padded = answered(opening(1, given + [0] * 300), *[get(0)] * 390)
            self.assertEqual(self.assert_as_words(opening(1, given), *[get(0)] * 390), padded)

    def test_bytes_that_no_writing_made(self):
        # The number is as large as the width, and stays so.
        got = answered(opening(1, [255] * 4), *[get(0)] * 390, chance(0))
        self.assertEqual(got[1:], [[1]] * 390 + [[31]])
        self.assertEqual(answered(opening(1, [255] * 300), *[get(0)] * 390)[1:], [[1]] * 390)

    def test_numbers_not_as_told(self):
        wrong = [get(c) for c in (-1, -2, -7, 7, 8, 4096) + FAR]
        before = [opening(7, [200, 100, 50, 25, 12, 6]), get(6), get_even(9)]
        self.assert_refused(before, wrong, [left(), get(6), chance(6), get_even(32), get_tree(0, 3), left()])
        self.assert_object_stays(answer_get, wrong)


class GetEven(Checks):
    def test_0_below_the_part_and_1_from_it_on(self):
        self.assertEqual(answered(opening(1, [0x7F, 0xFF, 0xFF, 0xFE]), get_even(1)), [[0], [0, 0]])
        self.assertEqual(answered(opening(1, [0x7F, 0xFF, 0xFF, 0xFF]), get_even(1)), [[0], [0, 1]])

    def test_the_highest_first(self):
        # Halves: 2147483647, 1073741823, 536870911.
        self.assertEqual(answered(opening(1, [0x7F, 0xFF, 0xFF, 0xFF]), get_even(3)), [[0], [0, 0b100]])
        self.assertEqual(answered(opening(1, [0x1F, 0xFF, 0xFF, 0xFF]), get_even(3)), [[0], [0, 0b001]])
        self.assertEqual(answered(opening(1, [0xBF, 0xFF, 0xFF, 0xFE]), get_even(3)), [[0], [0, 0b110]])
        self.assertEqual(answered(opening(1, [0xBF, 0xFF, 0xFF, 0xFD]), get_even(3)), [[0], [0, 0b101]])

    def test_no_bits(self):
        for given in OTHERS:
            behind = [get(0), get_even(32), chance(0), left()]
            without = answered(opening(1, given), *behind)
            self.assertEqual(answered(opening(1, given), get_even(0), *behind), [[0], [0, 0]] + without[1:])

    def test_read_back(self):
        for x in (0, 1, 2147483647, 2147483648, 4294967295, 2863311530):
            self.assert_read_back(begin(1), *[even(x, n) for n in range(33)])
            self.assert_read_back(begin(1), even(x, 32), even(x, 32), even(x, 32))

    def test_bits_one_by_one_are_the_bits_together(self):
        given = [77, 200, 3, 99, 250, 1, 64, 31]
        together = answered(opening(1, given), get_even(32))[1][1]
        single = answered(opening(1, given), *[get_even(1)] * 32)[1:]
        self.assertEqual("".join(str(answer[1]) for answer in single), f"{together:032b}")

    def test_no_chance_learns(self):
        self.assertEqual(answered(opening(2, [255] * 9), get_even(32), chance(0), chance(1))[2:], [[1024], [1024]])

    def test_past_the_last_byte(self):
        for given in ([], [0], [0, 0, 0], [0] * 4, [0] * 5):
            self.assertEqual(answered(opening(1, given), *[get_even(32)] * 12)[1:], [[0, 0]] * 12)
        for given in OTHERS:
            padded = answered(opening(1, given + [0] * 300), *[get_even(31)] * 50)
            self.assertEqual(self.assert_as_words(opening(1, given), *[get_even(31)] * 50), padded)

    def test_bytes_that_no_writing_made(self):
        # 8 bits 1 leave 2^24 + 7, of which the lower 24 bits stay: 7 times 256, which the last 8 bits tell.
        self.assertEqual(answered(opening(1, [255] * 4), get_even(32)), [[0], [0, 0xFF000007]])
        self.assertEqual(answered(opening(1, [255] * 4), get_even(8), get_even(24)), [[0], [0, 255], [0, 7]])
        self.assert_as_words(opening(1, [255] * 300), *[get_even(32)] * 90)

    def test_numbers_not_as_told(self):
        wrong = [get_even(n) for n in (-1, -32, 33, 64) + FAR]
        before = [opening(7, [200, 100, 50, 25, 12, 6]), get(6), get_even(9)]
        self.assert_refused(before, wrong, [left(), get(6), chance(6), get_even(32), get_tree(0, 3), left()])
        self.assert_object_stays(answer_get_even, wrong)


class GetTree(Checks):
    def test_one_bit_is_a_bit_by_chance_c(self):
        for given in OTHERS:
            same = answered(opening(5, given), get(3), get(3), chance(3))
            self.assertEqual(answered(opening(5, given), get_tree(3, 1), get_tree(3, 1), chance(3)), same)

    def test_the_chances_on_the_way(self):
        # 101: the first by chance c, then m is 11 = 3, then 110 = 6.
        given = written_by_words([begin(9), bit(2, 1), bit(4, 0), bit(7, 1)])
        got = answered(opening(9, given), get_tree(2, 3), *[chance(c) for c in range(9)])
        self.assertEqual(got[1], [0b101])
        self.assertEqual([answer[0] for answer in got[2:]], [1024, 1024, 992, 1024, 1056, 1024, 1024, 992, 1024])

    def test_read_back(self):
        for n in range(1, 13):
            k = 2 ** n - 1
            for x in (0, 1, 2 ** n // 3, 2 ** n - 1):
                self.assert_read_back(begin(k), tree(0, n, x), tree(0, n, 2 ** n - 1 - x), tree(0, n, x))
                self.assert_read_back(begin(4096), tree(4096 - k, n, x), bit(4095, 1), tree(4096 - k, n, x))
        self.assert_read_back(begin(15), *[tree(0, 4, x) for x in range(16)])

    def test_within_the_chances(self):
        for n in range(1, 13):
            k = 2 ** n - 1
            got = self.assert_as_words(opening(k + 1, [77] * 9), get_tree(0, n), get_tree(1, n), get_tree(2, n))
            self.assertEqual(got[3], [-2])
            if k > 1:
                self.assertEqual(answered(opening(k - 1, [77] * 9), get_tree(0, n))[1], [-2])

    def test_most_bits(self):
        got = self.assert_as_words(opening(4096, [99] * 20), get_tree(1, 12), get_tree(0, 12), get_tree(2, 12))
        self.assertEqual(got[3], [-2])
        self.assertEqual(answered(opening(4096, [99] * 20), get_tree(0, 13))[1], [-2])
        self.assertEqual(answered(opening(4094, [99] * 20), get_tree(0, 12))[1], [-2])

    def test_past_the_last_byte(self):
        for given in ([], [0], [0, 0, 0], [0] * 4, [0] * 5):
            self.assertEqual(answered(opening(4095, given), *[get_tree(0, 12)] * 40)[1:], [[0]] * 40)
        for given in OTHERS:
            padded = answered(opening(4095, given + [0] * 300), *[get_tree(0, 12)] * 90)
            self.assertEqual(self.assert_as_words(opening(4095, given), *[get_tree(0, 12)] * 90), padded)

    def test_bytes_that_no_writing_made(self):
        self.assertEqual(answered(opening(4095, [255] * 4), *[get_tree(0, 12)] * 40)[1:], [[4095]] * 40)
        self.assert_as_words(opening(7, [255] * 4), get_even(3), *[get_tree(0, 3)] * 100)

    def test_numbers_not_as_told(self):
        wrong = [get_tree(0, n) for n in (-1, 0, 4, 13, 32) + FAR]
        wrong += [get_tree(c, 3) for c in (-1, 1, 4, 7) + FAR]
        wrong += [get_tree(c, 1) for c in (-1, 7, 8) + FAR]
        wrong += [get_tree(-1, 2), get_tree(-4, 3), get_tree(5, 2)]
        wrong += [get_tree(c, n) for c in FAR for n in FAR]
        before = [opening(7, [200, 100, 50, 25, 12, 6]), get(6), get_even(9)]
        self.assert_refused(before, wrong, [left(), get(6), chance(6), get_even(32), get_tree(0, 3), left()])
        self.assert_object_stays(answer_get_tree, wrong)

    def test_more_bits_than_told_where_there_are_chances(self):
        wrong = [get_tree(0, n) for n in (-1, 0, 13, 14)] + [get_tree(2, 12), get_tree(4096, 1), get_tree(-1, 12)]
        self.assert_refused([opening(4096, [7] * 9)], wrong, [left(), get_tree(1, 12), get_tree(0, 12)])


class Together(Checks):
    def test_several_calls_on_one_object(self):
        told = [bit(0, 1), tree(1, 5, 21), even(123456789, 32), bit(0, 1), tree(1, 5, 20), even(6, 3), even(9, 0)]
        self.assert_read_back(begin(40), *told)

    def test_written_and_read_in_one_line(self):
        told = [begin(40), bit(39, 1), tree(1, 5, 21), even(4000000000, 32), bit(39, 0)]
        given = written_by_words(told)
        read = [opening(40, given)] + [getting(call) for call in told[1:]]
        got = answered(*told, finish(), *read, *read, *told, finish())
        expected = [got_back(call) for call in told[1:]]
        self.assertEqual(got[:6], [[0]] * 5 + [whole(given)])
        self.assertEqual(got[6:11], [[0]] + expected)
        self.assertEqual(got[11:16], [[0]] + expected)
        self.assertEqual(got[16:], [[0]] * 5 + [whole(given)])

    def test_open_again_on_a_used_object(self):
        behind = [opening(2, [130, 9, 9, 9, 9]), get(0), get(1), get_even(32), chance(0), left()]
        fresh = answered(*behind)
        before = [opening(3, [7] * 50), get(0), get_tree(0, 2), get_even(32)]
        self.assertEqual(answered(*before, *behind)[4:], fresh)
        self.assertEqual(answered(begin(3), bit(0, 1), even(1, 30), *behind)[3:], fresh)

    def test_lines_that_are_read_back(self):
        numbers = Steps(11)
        for turn in range(50):
            self.assert_read_back(*written_line(numbers))

    def test_lines_that_read_any_bytes(self):
        numbers = Steps(13)
        for turn in range(100):
            self.assert_as_words(*read_line(numbers))

    def test_lines_of_all_calls(self):
        numbers = Steps(17)
        for turn in range(150):
            self.assert_as_words(*any_line(numbers))


class WhereItWrites(Checks):
    def test_refused_before_the_first_call(self):
        for call in (get(0), get_even(0), get_even(1), get_even(32), get_tree(0, 1)):
            self.assertEqual(answered(call, chance(0), finish()), [[-2], [1024], [4, 0, 0, 0, 0]])

    def test_refused_behind_begin(self):
        told = [begin(4), bit(3, 1), even(5, 20), tree(0, 2, 3)]
        expected = whole(written_by_words(told + [bit(3, 1)]))
        wrong = (get(0), get(3), get(4), get(-1), get_even(0), get_even(32), get_even(33), get_even(-1),
                 get_tree(0, 1), get_tree(0, 2), get_tree(0, 13), get_tree(-1, 0))
        for call in wrong:
            got = answered(*told, call, call, chance(3), bit(3, 1), finish())
            self.assertEqual(got[4:], [[-2], [-2], [992], [0], expected], call)

    def test_begin_behind_open(self):
        got = answered(opening(3, [200] * 9), get(2), begin(3), get(2), get_even(4), get_tree(0, 2), chance(2))
        self.assertEqual(got, [[0], [1], [0], [-2], [-2], [-2], [1024]])

    def test_a_refused_begin_or_open_leaves_what_there_was(self):
        got = answered(opening(1, [255] * 5), begin(0), get_even(4), begin(4097), opening(0, [0] * 9), get_even(4))
        self.assertEqual(got, [[0], [-2], [0, 15], [-2], [-2], [0, 15]])
        self.assertEqual(answered(opening(0, [1]), get_even(1), opening(4097, []), get(0)), [[-2]] * 4)


if __name__ == "__main__":
    unittest.main()
