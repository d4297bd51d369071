"""Of two refusals at once, the one that comes first; and that a refusal changes nothing."""

import unittest

from tests.writing import (ask, at, back, before, count, cursor, drop, find, go, keep, last, load, many, mark, new,
                           next_, nth, order, pack, prev, put, rank, save, seek, set_, sum_, take, unpack, walk,
                           walk_of)
from tests.test_limits import full_table

KEY = [0, 0, 0, 0]
HUGE = 4294967295


class WrongForm(unittest.TestCase):
    def test_above_what_is_allowed(self):
        told = ask(order(0, 1), cursor(0, 0), order(2, 1), cursor(0, 2), cursor(0, HUGE), find(0, 4, KEY),
                   find(0, HUGE, KEY), sum_(0, 4, KEY, KEY), sum_(0, HUGE, KEY, KEY), seek(0, 2, KEY),
                   seek(0, HUGE, KEY), walk(0, 1001, KEY, KEY), walk(0, HUGE, KEY, KEY),
                   walk(0, 1, KEY, KEY, [6, 0, 0]), walk(0, 1, KEY, KEY, [0, 4, 0]))
        self.assertEqual(told, [0, 0] + [-1] * 13)

    def test_the_greatest_that_are_allowed(self):
        told = ask(order(1, 1), cursor(0, 1), find(0, 3, KEY), sum_(0, 3, KEY, KEY), seek(0, 1, KEY),
                   walk(0, 1000, KEY, KEY, [5, 3, 2 ** 64 - 1]))
        self.assertEqual(told, [0, 0, 0, 0, 0, 0])

    def test_lists_that_are_no_rows_no_orders_no_deeds_no_32_bytes(self):
        told = ask(order(0, 1), cursor(0, 0), seek(0, 0, [1]), walk(0, 1, [1], KEY), walk(0, 1, KEY, [1]),
                   walk_of(0, 1, KEY, KEY, [0, 0]), before([], KEY, KEY), before([1], [1], KEY), before([1], KEY, [1]),
                   pack([], KEY), pack([1], [1]), unpack([], [0] * 32), unpack([1], [0] * 31))
        self.assertEqual(told, [0, 0] + [-1] * 11)

    def test_before_no_order(self):
        told = ask(find(0, 4, KEY), find(0, 0, [1]), many(0, [1], KEY), many(0, KEY, [1]), sum_(0, 4, KEY, KEY),
                   sum_(0, 0, KEY, [1]), cursor(0, 2), walk(0, 1001, KEY, KEY), walk(0, 1, [1], KEY),
                   walk(0, 1, KEY, [1]), walk_of(0, 1, KEY, KEY, [0]))
        self.assertEqual(told, [-1] * 11)

    def test_before_no_row(self):
        self.assertEqual(last(set_(1, 1, 2, 3)), -1)

    def test_before_no_cursor(self):
        self.assertEqual(ask(seek(0, 2, KEY), seek(0, 0, [1]), seek(0, 0, KEY)), [-1, -1, -4])

    def test_before_marks_that_bar(self):
        self.assertEqual(ask(mark(), order(2, 1), order(0, 0), order(0, 1)), [1, -1, -1, -9])

    def test_before_no_room(self):
        self.assertEqual(ask(*full_table(), put(1), put(1, 0, 0, 0))[257:], [-1, -3])
        self.assertEqual(ask(*[order(0, 1)] * 6, order(0, 17), order(2, 1), order(0, 1))[6:], [-1, -1, -3])
        self.assertEqual(ask(order(0, 1), *[cursor(0, 0)] * 16, cursor(0, 2), cursor(0, 1))[17:], [-1, -3])

    def test_before_a_taken_key(self):
        self.assertEqual(ask(order(1, 1), put(1, 0, 0, 0), put(1, 0, 0), set_(1, 1, 0, 0, 0, 0))[2:], [-1, -1])

    def test_before_same_keys(self):
        self.assertEqual(ask(put(*KEY), put(*KEY), order(2, 1), order(1, 1, 1), order(1, 1))[2:], [-1, -1, -5])


class NoOrder(unittest.TestCase):
    def test_every_call_that_names_an_order(self):
        for k in (1, 5, 6, HUGE):
            told = ask(order(0, 1), nth(k, 0), rank(k, 1), find(k, 0, KEY), many(k, KEY, KEY), sum_(k, 0, KEY, KEY),
                       cursor(k, 0), walk(k, 1, KEY, KEY))
            self.assertEqual(told[1:], [-2] * 7, k)

    def test_before_no_row(self):
        self.assertEqual(ask(order(0, 1), rank(1, 7), rank(0, 7))[1:], [-2, -4])

    def test_before_no_room(self):
        self.assertEqual(ask(order(0, 1), *[cursor(0, 0)] * 16, cursor(1, 0), cursor(0, 0))[17:], [-2, -3])


class NotThere(unittest.TestCase):
    def test_no_cursor_no_row_no_mark(self):
        told = ask(order(0, 1), cursor(0, 0), drop(1), go(1, 1), go(0, 1), seek(1, 0, KEY), at(1), next_(1), prev(1),
                   set_(1, 0, 0, 0, 0), take(1), rank(0, 1), back(), keep())
        self.assertEqual(told[2:], [-4] * 12)

    def test_before_a_taken_key_and_marks_that_bar(self):
        sets = [[2, 1, value] for value in range(1, 513)]
        told = ask(order(1, 1), order(0, 2), put(1, 0, 0, 0), mark(), walk(1, 1000, KEY, [0, 999, 0, 0], *sets),
                   set_(2, 1, 0, 0, 0), take(2), set_(1, 1, 0, 0, 0), take(1))
        self.assertEqual(told[5:], [-4, -4, -9, -9])


class LaterOnes(unittest.TestCase):
    def test_no_row_before_a_taken_key(self):
        self.assertEqual(ask(order(1, 1), put(1, 0, 0, 0), set_(2, 1, 0, 0, 0))[2:], [-4])

    def test_no_room_before_a_taken_key(self):
        self.assertEqual(last(*full_table(), put(1, 0, 0, 0)), -3)

    def test_no_room_before_same_keys(self):
        told = ask(put(*KEY), put(*KEY), *[order(0, 1)] * 6, order(1, 1))
        self.assertEqual(told[-1], -3)


class NothingChanges(unittest.TestCase):
    START = [order(1, 1), order(0, 6), put(1, 1, 0, 0), put(2, 1, 0, 0), put(3, 0, 0, 0), cursor(0, 0), cursor(1, 1),
             go(0, 2), go(1, 1), mark()]
    REFUSED = [put(1, 9, 9, 9), put(1), set_(1, 2, 7, 7, 7), set_(1, 1), set_(9, 0, 0, 0, 0), order(1, 2), order(0, 0),
               order(2, 1), order(0, 3), cursor(7, 0), cursor(0, 2), drop(2), rank(0, 9), take(9), go(0, 9), go(9, 1),
               seek(0, 2, KEY), seek(0, 0, [1]), seek(9, 0, KEY), at(9), next_(9), prev(9),
               walk(0, 1001, KEY, [9, 9, 9, 9], [1, 0, 0]), walk(9, 9, KEY, [9, 9, 9, 9], [1, 0, 0]),
               walk(0, 9, KEY, [9, 9, 9, 9], [1, 0, 0], [6, 0, 0]), load([]), load([0] * 9), before([0], KEY, KEY),
               pack([1], [1]), unpack([1], [1])]
    SEEN = [count(), at(0), at(1)] + [nth(k, j) for k in (0, 1) for j in range(4)] + [
        next_(0), next_(1), cursor(0, 0), save(), back(), save()]

    def test_refused_calls_leave_the_table_as_it_was(self):
        wanted = ask(*self.START, *self.SEEN)[len(self.START):]
        both = ask(*self.START, *self.REFUSED, *self.SEEN)[len(self.START):]
        self.assertTrue(all(number < 0 for number in both[:len(self.REFUSED)]), both)
        self.assertEqual(both[len(self.REFUSED):], wanted)
        self.assertEqual(last(*self.START, *self.REFUSED, new(), count()), [0, 0, 0, 1])

    def test_refused_back_keep_and_mark(self):
        self.assertEqual(ask(put(*KEY), back(), keep(), count(), *[mark()] * 8, mark(), count(), back(), count())[1:],
                         [-4, -4, [1, 0, 0, 2], 1, 2, 3, 4, 5, 6, 7, 8, -3, [1, 0, 8, 2], 7, [1, 0, 7, 2]])


if __name__ == "__main__":
    unittest.main()
