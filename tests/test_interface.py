"""How calls and answers are written, and that nothing handed in is changed or kept."""

import unittest

from standtable.book import answers
from tests.test_limits import full_table
from tests.writing import TOP, joined


class Written(unittest.TestCase):
    # Each call as it's written, and its answer with how many numbers it has.
    PAIRS = [
        ([1, 1, 2, 1, 6], [1, 0]),
        ([2, 4, 5, 6, 7, 8], [1, 1]),
        ([2, 4, 5, 5, 7, 8], [1, 2]),
        ([3, 1, 4, 1, 2, 3, 4], [1, 0]),
        ([5, 1], [1, 1]),
        ([5, 9], [1, 0]),
        ([6, 1], [4, 1, 2, 3, 4]),
        ([6, 9], [1, -4]),
        ([7], [4, 2, 1, 0, 3]),
        ([8, 0, 1], [1, 2]),
        ([9, 0, 2], [1, 1]),
        ([10, 0, 1, 4, 1, 2, 0, 0], [1, 2]),
        ([11, 0, 4, 0, 0, 0, 0, 4, 9, 0, 0, 0], [1, 2]),
        ([12, 0, 2, 4, 0, 0, 0, 0, 4, 9, 0, 0, 0], [1, 10]),
        ([13, 0, 1], [1, 0]),
        ([15, 0, 1], [1, 0]),
        ([16, 0, 1, 4, 5, 5, 0, 0], [1, 0]),
        ([19, 0], [1, 2]),
        ([17, 0], [1, 2]),
        ([18, 0], [1, 0]),
        ([18, 9], [1, -4]),
        ([20, 0, 9, 4, 0, 0, 0, 0, 4, 9, 0, 0, 0, 3, 0, 0, 0], [3, 2, 1, 2]),
        ([20, 0, 9, 4, 0, 0, 0, 0, 4, 0, 0, 0, 0, 0], [1, 0]),
        ([20, 1, 9, 4, 0, 0, 0, 0, 4, 0, 0, 0, 0, 0], [1, -2]),
        ([20, 0, 9, 4, 0, 0, 0, 0, 4, 0, 0, 0, 0, 1, 7], [1, -1]),
        ([21], [1, 1]),
        ([21], [1, 2]),
        ([23], [1, 1]),
        ([22], [1, 0]),
        ([22], [1, -4]),
        ([26, 0], [1, 0]),
        ([26, 2, 1, 6], [1, 1]),
        ([27, 1, 1, 4, 1, 0, 0, 0, 4, 2, 0, 0, 0], [1, 0]),
        ([27, 0, 4, 1, 0, 0, 0, 4, 2, 0, 0, 0], [1, -1]),
        ([28, 1, 5, 4, 1, 0, 0, 0], [32] + [255] * 7 + [254] + [0] * 24),
        ([28, 1, 5, 0], [1, -1]),
        ([29, 1, 5, 32] + [255] * 7 + [254] + [0] * 24, [4, 1, 0, 0, 0]),
        ([29, 1, 5, 1, 255], [1, -1]),
        ([25, 2, 0, 0], [1, -6]),
        ([14, 0], [1, 0]),
        ([4, 1], [1, 0]),
        ([2, 0], [1, -1]),
        ([3, 2, 8, 1, 2, 3, 4, 5, 6, 7, 8], [1, -1]),
        ([11, 0, 0, 8, 1, 2, 3, 4, 5, 6, 7, 8], [1, -1]),
        ([1, 0, 0], [1, -1]),
        ([7], [4, 1, 1, 0, 3]),
        ([0], [1, 0]),
        ([7], [4, 0, 0, 0, 1]),
        ([24], [10, 9, 0, 0, 0, 0, 0, 1, 0, 0, 0]),
        ([25, 9, 0, 0, 0, 0, 0, 4, 0, 0, 0], [1, 0]),
        ([7], [4, 0, 0, 0, 4]),
    ]

    def test_calls_one_behind_another(self):
        self.assertEqual(answers(joined(call for call, told in self.PAIRS)), joined(told for call, told in self.PAIRS))

    def test_every_beginning_of_the_calls(self):
        for end in range(1, len(self.PAIRS) + 1):
            some = self.PAIRS[:end]
            self.assertEqual(answers(joined(call for call, told in some)), joined(told for call, told in some))

    def test_one_call_alone(self):
        self.assertEqual(answers([0]), [1, 0])
        self.assertEqual(answers([7]), [4, 0, 0, 0, 1])


class Kept(unittest.TestCase):
    LISTS = [
        [7],
        [1, 0, 1, 1, 2, 4, 1, 2, 3, TOP, 3, 1, 4, 5, 6, 7, 8, 6, 1, 13, 0, 1, 4, 1, 7],
        joined(full_table()) + [2, 4, 0, 0, 0, 0],
        [2, 0, 1, 0, 0, 10, 0, 0, 0, 11, 0, 0, 0, 12, 0, 0, 0, 0, 7],
        joined(call for call, told in Written.PAIRS),
        joined([[1, 0, 1, 1], [2, 4, 0, 0, 0, 0], [13, 0, 1], [18, 0], [21],
                [20, 0, 1000, 4, 0, 0, 0, 0, 4, 9, 0, 0, 0, 9, 2, 0, 5, 3, 0, 7, 1, 0, 0], [24], [17, 0], [22], [24]]),
        [25, 10000] + [0] * 10000 + [7],
        [20, 0, 1000, 0, 0, 3000] + [1, 0, 0] * 1000 + [24],
    ]

    def test_what_is_handed_in_stays_as_it_was(self):
        for calls in self.LISTS:
            handed = list(calls)
            answers(handed)
            self.assertEqual(handed, calls)

    def test_the_same_list_twice_is_answered_the_same(self):
        for calls in self.LISTS:
            first = answers(calls)
            kept = list(first)
            first.append("spoiled")
            self.assertEqual(answers(calls), kept)

    def test_one_list_leaves_nothing_for_another(self):
        answers(self.LISTS[2])
        answers([21, 21, 2, 4, 1, 2, 3, 4])
        self.assertEqual(answers([7, 8, 0, 0, 14, 0, 22, 24]),
                         [4, 0, 0, 0, 1, 1, -2, 1, -4, 1, -4, 10, 9, 0, 0, 0, 0, 0, 1, 0, 0, 0])

    def test_what_is_handed_in_may_change_afterwards(self):
        calls = [2, 4, 1, 2, 3, 4, 6, 1]
        told = answers(calls)
        calls[2] = 9
        self.assertEqual(told, [1, 1, 4, 1, 2, 3, 4])

    def test_answers_are_whole_numbers(self):
        for calls in self.LISTS:
            told = answers(calls)
            self.assertIs(type(told), list)
            self.assertEqual({type(number) for number in told}, {int})


if __name__ == "__main__":
    unittest.main()
