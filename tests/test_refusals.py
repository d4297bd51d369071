"""Of two refusals at once, the one that comes first; and that a refusal changes nothing."""

import unittest

from tests.writing import ask, count, cursor, drop, find, last, many, new, nth, order, put, rank, set_, sum_
from tests.test_limits import full_table

KEY = [0, 0, 0, 0]
HUGE = 4294967295


class WrongForm(unittest.TestCase):
    def test_above_what_is_allowed(self):
        told = ask(order(0, 1), order(2, 1), cursor(0, 2), cursor(0, HUGE), find(0, 4, KEY), find(0, HUGE, KEY),
                   sum_(0, 4, KEY, KEY), sum_(0, HUGE, KEY, KEY))
        self.assertEqual(told, [0, -1, -1, -1, -1, -1, -1, -1])

    def test_the_greatest_that_are_allowed(self):
        told = ask(order(1, 1), cursor(0, 1), find(0, 3, KEY), sum_(0, 3, KEY, KEY))
        self.assertEqual(told, [0, 0, 0, 0])

    def test_before_no_order(self):
        told = ask(find(0, 4, KEY), find(0, 0, [1]), many(0, [1], KEY), many(0, KEY, [1]), sum_(0, 4, KEY, KEY),
                   sum_(0, 0, KEY, [1]), cursor(0, 2))
        self.assertEqual(told, [-1] * 7)

    def test_before_no_row(self):
        self.assertEqual(last(set_(1, 1, 2, 3)), -1)

    def test_before_no_room(self):
        self.assertEqual(ask(*full_table(), put(1), put(1, 0, 0, 0))[257:], [-1, -3])
        self.assertEqual(ask(*[order(0, 1)] * 6, order(0, 17), order(2, 1), order(0, 1))[6:], [-1, -1, -3])
        self.assertEqual(ask(order(0, 1), *[cursor(0, 0)] * 16, cursor(0, 2), cursor(0, 1))[17:], [-1, -3])

    def test_before_a_taken_key(self):
        self.assertEqual(ask(order(1, 1), put(1, 0, 0, 0), put(1, 0, 0), set_(1, 1, 0, 0, 0, 0))[2:], [-1, -1])

    def test_before_same_keys(self):
        self.assertEqual(ask(put(*KEY), put(*KEY), order(2, 1), order(1, 1, 1), order(1, 1))[2:], [-1, -1, -5])


class NoOrder(unittest.TestCase):
    def test_every_call_that_names_an_order(self):
        for k in (1, 5, 6, HUGE):
            told = ask(order(0, 1), nth(k, 0), rank(k, 1), find(k, 0, KEY), many(k, KEY, KEY), sum_(k, 0, KEY, KEY),
                       cursor(k, 0))
            self.assertEqual(told[1:], [-2] * 6, k)

    def test_before_no_row(self):
        self.assertEqual(ask(order(0, 1), rank(1, 7), rank(0, 7))[1:], [-2, -4])

    def test_before_no_room(self):
        self.assertEqual(ask(order(0, 1), *[cursor(0, 0)] * 16, cursor(1, 0), cursor(0, 0))[17:], [-2, -3])


class LaterOnes(unittest.TestCase):
    def test_no_row_before_a_taken_key(self):
        self.assertEqual(ask(order(1, 1), put(1, 0, 0, 0), set_(2, 1, 0, 0, 0))[2:], [-4])

    def test_no_room_before_a_taken_key(self):
        self.assertEqual(last(*full_table(), put(1, 0, 0, 0)), -3)

    def test_no_room_before_same_keys(self):
        told = ask(put(*KEY), put(*KEY), *[order(0, 1)] * 6, order(1, 1))
        self.assertEqual(told[-1], -3)


class NothingChanges(unittest.TestCase):
    def test_refused_calls_leave_the_table_as_it_was(self):
        start = [order(1, 1), order(0, 6), put(1, 1, 0, 0), put(2, 1, 0, 0), put(3, 0, 0, 0), cursor(0, 0)]
        refused = [put(1, 9, 9, 9), put(1), set_(1, 2, 7, 7, 7), set_(1, 1), set_(9, 0, 0, 0, 0), order(1, 2),
                   order(0, 0), order(2, 1), cursor(7, 0), cursor(0, 2), drop(1), rank(0, 9)]
        seen = [count()] + [nth(k, j) for k in (0, 1) for j in range(4)] + [cursor(0, 0)]
        before = ask(*start, *seen)[len(start):]
        both = ask(*start, *refused, *seen)[len(start):]
        self.assertTrue(all(number < 0 for number in both[:len(refused)]), both)
        self.assertEqual(both[len(refused):], before)
        self.assertEqual(last(*start, *refused, new(), count()), [0, 0, 0, 1])


if __name__ == "__main__":
    unittest.main()
