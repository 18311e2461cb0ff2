"""The interface: the form of the two lists, and that nothing is changed or kept."""

import unittest

from chancebits.desk import answers

MIXED = [0, 9, 1, 8, 1, 3, 0, 3, 5, 2, 4294967295, 32, 4, 100, 4, 7, 1, 9, 0, 5, 2, 5, 1, 2, 3, 4, 5, 4, 100]


class Interface(unittest.TestCase):
    def test_the_form_of_both_lists(self):
        self.assertEqual(answers([0, 1]), [1, 0])
        self.assertEqual(answers([0, 0]), [1, -2])
        self.assertEqual(answers([4, 3]), [1, -1])
        self.assertEqual(answers([4, 4]), [5, 4, 0, 0, 0, 0])
        self.assertEqual(answers([1, 0, 1, 4, 4, 1, 1, 1]), [1, 0, 5, 4, 127, 255, 252, 0, 1, -2])
        self.assertEqual(answers([5, 1, 0]), [1, 0])
        self.assertEqual(answers([5, 1, 2, 4, 4, 4, 4, 0, 1, 4, 4]), [1, 0, 1, -2, 1, 0, 5, 4, 0, 0, 0, 0])

    def test_whole_numbers_alone_are_answered(self):
        got = answers(MIXED)
        self.assertIs(type(got), list)
        self.assertEqual({type(number) for number in got}, {int})

    def test_what_is_handed_in_is_not_changed(self):
        calls = list(MIXED)
        answers(calls)
        self.assertEqual(calls, MIXED)

    def test_a_second_time_answers_like_the_first(self):
        first = answers(MIXED)
        answers([0, 4096, 3, 0, 12, 4095, 1, 4095, 1])
        answers([5, 4096, 1, 255])
        self.assertEqual(answers(MIXED), first)

    def test_a_new_object_each_time(self):
        answers([0, 2, 1, 1, 1])
        self.assertEqual(answers([4, 4, 1, 1, 1]), [5, 4, 0, 0, 0, 0, 1, -2])
        answers([5, 2, 0])
        self.assertEqual(answers([4, 4]), [5, 4, 0, 0, 0, 0])

    def test_what_is_answered_may_be_changed(self):
        first = answers([1, 0, 1, 4, 4])
        kept = list(first)
        first.clear()
        self.assertEqual(answers([1, 0, 1, 4, 4]), kept)

    def test_a_full_line(self):
        calls = [0, 4096] + [3, 0, 12, 4095] * 398 + [4, 1048576]
        got = answers(calls)
        self.assertEqual(got[:2 * 399], [1, 0] * 399)
        self.assertEqual(got[798], got[799] + 1)
        self.assertEqual(len(got), 800 + got[799])

    def test_a_long_row(self):
        self.assertEqual(answers([5, 4096, 20000] + [255] * 20000 + [0, 4096]), [1, 0, 1, 0])


if __name__ == "__main__":
    unittest.main()
