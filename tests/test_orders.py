"""How orders compare rows, what's a row, and what's an order."""

import itertools
import unittest

from tests.writing import HALF, TOP, ask, count, find, in_order, last, many, nth, order, put, rank, row, set_, sum_

UP, DOWN, SIGN_UP, SIGN_DOWN = 1, 5, 9, 13
ALL_SIDES = [0, 1, HALF - 1, HALF, HALF + 1, TOP]


def rows_of(values, f=0):
    return [[0] * f + [value] + [0] * (3 - f) for value in values]


class Codes(unittest.TestCase):
    def test_up_without_sign(self):
        self.assertEqual(in_order(rows_of([HALF, 7, TOP, 0, HALF - 1]), UP), [4, 2, 5, 1, 3])

    def test_down_without_sign(self):
        self.assertEqual(in_order(rows_of([HALF, 7, TOP, 0, HALF - 1]), DOWN), [3, 1, 5, 2, 4])

    def test_up_with_sign(self):
        self.assertEqual(in_order(rows_of([HALF, 7, TOP, 0, HALF - 1]), SIGN_UP), [1, 3, 4, 2, 5])

    def test_down_with_sign(self):
        self.assertEqual(in_order(rows_of([HALF, 7, TOP, 0, HALF - 1]), SIGN_DOWN), [5, 2, 4, 3, 1])

    def test_each_field_in_each_way(self):
        ways = {UP: ALL_SIDES, DOWN: ALL_SIDES[::-1],
                SIGN_UP: ALL_SIDES[3:] + ALL_SIDES[:3], SIGN_DOWN: (ALL_SIDES[3:] + ALL_SIDES[:3])[::-1]}
        mixed = [ALL_SIDES[at] for at in (4, 0, 5, 2, 1, 3)]
        for way, wanted in ways.items():
            for f in range(4):
                numbers = in_order(rows_of(mixed, f), way + f)
                self.assertEqual([mixed[n - 1] for n in numbers], wanted, (way, f))

    def test_fields_that_the_order_has_not_do_not_count(self):
        rows = [[5, 9, 9, 9], [5, 0, 0, 0], [4, 9, 0, 9]]
        self.assertEqual(in_order(rows, UP), [3, 1, 2])

    def test_first_field_that_differs_decides(self):
        rows = [[2, 1, 0, 0], [1, 2, 0, 0], [1, 1, 0, 0], [2, 2, 0, 0]]
        self.assertEqual(in_order(rows, 1, 2), [3, 2, 1, 4])
        self.assertEqual(in_order(rows, 2, 1), [3, 1, 2, 4])
        self.assertEqual(in_order(rows, 5, 2), [1, 4, 3, 2])
        self.assertEqual(in_order(rows, 1, 6), [2, 3, 4, 1])

    def test_three_and_four_fields(self):
        rows = [list(bits) for bits in itertools.product((0, HALF), repeat=4)]
        self.assertEqual([rows[n - 1] for n in in_order(rows, 1, 2, 3, 4)], sorted(rows))
        # HALF with a sign is below 0, so field 1 goes up with a sign as it goes down without one.
        wanted = sorted(rows, key=lambda r: (r[3], -r[2], -r[1], r[0]))
        self.assertEqual([rows[n - 1] for n in in_order(rows, 4, 7, 10, 1)], wanted)
        wanted = sorted(rows, key=lambda r: (r[2], r[0], -r[1], rows.index(r)))
        self.assertEqual([rows[n - 1] for n in in_order(rows, 3, 1, 6)], wanted)

    def test_same_key_stands_by_number(self):
        rows = [[1, 4, 0, 0], [0, 3, 0, 0], [1, 2, 0, 0], [0, 1, 0, 0], [1, 0, 0, 0]]
        self.assertEqual(in_order(rows, UP), [2, 4, 1, 3, 5])
        self.assertEqual(in_order(rows, DOWN), [1, 3, 5, 2, 4])

    def test_rows_that_were_there_first_stand_in_a_new_order(self):
        told = ask(put(3, 0, 0, 0), put(1, 0, 0, 0), put(2, 0, 0, 0), order(0, UP),
                   nth(0, 0), nth(0, 1), nth(0, 2), nth(0, 3))
        self.assertEqual(told[4:], [2, 3, 1, 0])


class NoRow(unittest.TestCase):
    WRONG = [[], [1], [1, 2, 3], [1, 2, 3, 4, 5], [0] * 8, [0, 0, 0, TOP + 1], [TOP + 1, 0, 0, 0], [0, 0, 0, -1]]
    RIGHT = [[0, 0, 0, 0], [TOP, TOP, TOP, TOP], [HALF, HALF - 1, 1, 0]]

    def test_rows(self):
        for fields in self.RIGHT:
            self.assertEqual(ask(put(*fields), row(1)), [1, fields])

    def test_put_and_set(self):
        for fields in self.WRONG:
            told = ask(put(1, 2, 3, 4), put(*fields), set_(1, *fields), row(1), count())
            self.assertEqual(told, [1, -1, -1, [1, 2, 3, 4], [1, 0, 0, 2]], fields)

    def test_keys(self):
        right = [1, 2, 3, 4]
        for fields in self.WRONG:
            told = ask(order(0, 1), find(0, 0, fields), many(0, fields, right), many(0, right, fields),
                       sum_(0, 0, fields, right), sum_(0, 0, right, fields))
            self.assertEqual(told[1:], [-1] * 5, fields)


class NoOrder(unittest.TestCase):
    def test_orders(self):
        for codes in [[1], [16], [1, 2, 3, 4], [13, 10, 7, 4], [16, 1], [5, 6, 7]]:
            self.assertEqual(ask(order(0, *codes), count()), [0, [0, 1, 0, 1]], codes)
            self.assertEqual(ask(order(1, *codes), count()), [0, [0, 1, 0, 1]], codes)

    def test_too_short_too_long(self):
        for codes in [[], [1, 2, 3, 4, 5], [1, 2, 3, 4, 8], [1, 2, 3, 4, 0], [1] * 8]:
            self.assertEqual(ask(order(0, *codes), count()), [-1, [0, 0, 0, 1]], codes)

    def test_numbers_out_of_range(self):
        for codes in [[0], [17], [255], [1, 0], [1, 18], [0, 1], [1, 2, 3, 20]]:
            self.assertEqual(ask(order(0, *codes), count()), [-1, [0, 0, 0, 1]], codes)

    def test_field_twice(self):
        for f in range(4):
            for ways in itertools.product((1, 5, 9, 13), repeat=2):
                codes = [way + f for way in ways]
                self.assertEqual(last(order(0, *codes)), -1, codes)
        self.assertEqual(last(order(0, 1, 2, 3, 6)), -1)

    def test_unique_above_one(self):
        self.assertEqual(ask(order(2, 1), order(4294967295, 1), count()), [-1, -1, [0, 0, 0, 1]])


class Ranks(unittest.TestCase):
    def test_rank_is_the_other_way_round_of_nth(self):
        rows = [[3, 1, 0, 0], [1, 1, 0, 0], [2, 1, 0, 0], [1, 0, 0, 0]]
        calls = [order(0, 1), order(0, 6, 5)] + [put(*fields) for fields in rows]
        told = ask(*(calls + [rank(k, n) for k in (0, 1) for n in (1, 2, 3, 4)]))
        self.assertEqual(told[6:], [3, 0, 2, 1, 0, 2, 1, 3])


if __name__ == "__main__":
    unittest.main()
