"""Each call at ordinary inputs and at its edges."""

import unittest

from tests.writing import (HALF, TOP, ask, count, cursor, drop, find, has, last, many, new, nth, order, put, rank,
                           row, set_, sum_, take)

HUGE = 4294967295


class Rows(unittest.TestCase):
    def test_put_gives_the_next_number(self):
        told = ask(put(1, 2, 3, 4), put(1, 2, 3, 4), put(0, 0, 0, 0), count())
        self.assertEqual(told, [1, 2, 3, [3, 0, 0, 4]])

    def test_numbers_that_are_gone_do_not_come_again(self):
        told = ask(put(1, 0, 0, 0), put(2, 0, 0, 0), take(2), put(3, 0, 0, 0), take(1), take(3), put(4, 0, 0, 0))
        self.assertEqual(told, [1, 2, 0, 3, 0, 0, 4])

    def test_refused_put_uses_no_number(self):
        told = ask(put(1), put(1, 2, 3, 4), order(1, 1), put(1, 0, 0, 0), put(2, 0, 0, 0))
        self.assertEqual(told, [-1, 1, 0, -20, 2])

    def test_row_and_has(self):
        told = ask(put(1, TOP, HALF, 0), row(1), has(1), row(2), has(2), row(0), has(0), row(HUGE), has(HUGE))
        self.assertEqual(told, [1, [1, TOP, HALF, 0], 1, -4, 0, -4, 0, -4, 0])

    def test_take(self):
        told = ask(put(1, 2, 3, 4), put(5, 6, 7, 8), take(1), has(1), row(1), row(2), take(1), count())
        self.assertEqual(told, [1, 2, 0, 0, -4, [5, 6, 7, 8], -4, [1, 0, 0, 3]])

    def test_take_of_what_has_never_been(self):
        self.assertEqual(ask(put(0, 0, 0, 0), take(0), take(2), take(HUGE), count()), [1, -4, -4, -4, [1, 0, 0, 2]])

    def test_set(self):
        told = ask(put(1, 2, 3, 4), put(5, 6, 7, 8), set_(1, 9, 0, TOP, 1), row(1), row(2), count())
        self.assertEqual(told, [1, 2, 0, [9, 0, TOP, 1], [5, 6, 7, 8], [2, 0, 0, 3]])

    def test_set_to_the_same_fields(self):
        self.assertEqual(ask(order(1, 1), put(1, 2, 3, 4), set_(1, 1, 2, 3, 4), row(1), nth(0, 0), nth(0, 1)),
                         [0, 1, 0, [1, 2, 3, 4], 1, 0])

    def test_set_of_no_row(self):
        told = ask(put(1, 2, 3, 4), take(1), set_(1, 1, 1, 1, 1), set_(0, 1, 1, 1, 1), set_(2, 1, 1, 1, 1),
                   set_(HUGE, 1, 1, 1, 1), count())
        self.assertEqual(told[2:], [-4, -4, -4, -4, [0, 0, 0, 2]])

    def test_set_moves_a_row_in_every_order(self):
        told = ask(order(0, 1), order(0, 6), put(1, 1, 0, 0), put(2, 2, 0, 0), put(3, 3, 0, 0), set_(1, 4, 4, 0, 0),
                   nth(0, 0), nth(0, 1), nth(0, 2), nth(0, 3), nth(1, 0), nth(1, 1), nth(1, 2), nth(1, 3))
        self.assertEqual(told[6:], [2, 3, 1, 0, 1, 3, 2, 0])

    def test_take_leaves_every_order(self):
        told = ask(order(0, 1), order(0, 5), put(1, 1, 0, 0), put(1, 2, 0, 0), put(1, 3, 0, 0), take(2),
                   nth(0, 0), nth(0, 1), nth(0, 2), nth(1, 0), nth(1, 1), nth(1, 2), rank(0, 3), rank(1, 2))
        self.assertEqual(told[6:], [1, 3, 0, 1, 3, 0, 1, -4])


class New(unittest.TestCase):
    def test_a_table_is_new_at_the_beginning(self):
        self.assertEqual(ask(count(), nth(0, 0), drop(0), has(1)), [[0, 0, 0, 1], -2, -4, 0])

    def test_new_in_the_midst(self):
        told = ask(order(1, 1), put(1, 2, 3, 4), put(2, 2, 3, 4), cursor(0, 1), new(), count(), has(1), row(2),
                   nth(0, 0), drop(0), order(0, 2), put(1, 1, 1, 1), put(1, 1, 1, 1), cursor(0, 0), count())
        self.assertEqual(told, [0, 1, 2, 0, 0, [0, 0, 0, 1], 0, -4, -2, -4, 0, 1, 2, 0, [2, 1, 0, 3]])

    def test_new_again_and_again(self):
        self.assertEqual(ask(new(), new(), put(0, 0, 0, 0), new(), put(0, 0, 0, 0), new()), [0, 0, 1, 0, 1, 0])


class Places(unittest.TestCase):
    ROWS = [put(10, 1, 0, 0), put(20, 2, 0, 0), put(20, 3, 0, 0), put(30, 4, 0, 0)]

    def table(self, *asked):
        return ask(order(0, 1), order(0, 5), *self.ROWS, *asked)[6:]

    def test_nth(self):
        self.assertEqual(self.table(nth(0, 0), nth(0, 1), nth(0, 2), nth(0, 3), nth(0, 4), nth(0, HUGE)),
                         [1, 2, 3, 4, 0, 0])
        self.assertEqual(self.table(nth(1, 0), nth(1, 1), nth(1, 2), nth(1, 3), nth(1, 4)), [4, 2, 3, 1, 0])
        self.assertEqual(self.table(nth(2, 0), nth(HUGE, 0)), [-2, -2])
        self.assertEqual(last(order(0, 1), nth(0, 0)), 0)

    def test_rank(self):
        self.assertEqual(self.table(rank(0, 1), rank(0, 2), rank(0, 3), rank(0, 4)), [0, 1, 2, 3])
        self.assertEqual(self.table(rank(1, 1), rank(1, 2), rank(1, 3), rank(1, 4)), [3, 1, 2, 0])
        self.assertEqual(self.table(rank(0, 0), rank(0, 5), rank(0, HUGE), rank(2, 1)), [-4, -4, -4, -2])

    def found(self, k, key):
        return self.table(*[find(k, how, [key, 99, 99, 99]) for how in range(4)])

    def test_find_up(self):
        self.assertEqual(self.found(0, 5), [1, 1, 0, 0])
        self.assertEqual(self.found(0, 10), [1, 2, 0, 1])
        self.assertEqual(self.found(0, 15), [2, 2, 1, 1])
        self.assertEqual(self.found(0, 20), [2, 4, 1, 3])
        self.assertEqual(self.found(0, 25), [4, 4, 3, 3])
        self.assertEqual(self.found(0, 30), [4, 0, 3, 4])
        self.assertEqual(self.found(0, 35), [0, 0, 4, 4])

    def test_find_down(self):
        self.assertEqual(self.found(1, 35), [4, 4, 0, 0])
        self.assertEqual(self.found(1, 20), [2, 1, 4, 3])
        self.assertEqual(self.found(1, 15), [1, 1, 3, 3])
        self.assertEqual(self.found(1, 10), [1, 0, 3, 1])
        self.assertEqual(self.found(1, 5), [0, 0, 1, 1])

    def test_find_without_rows(self):
        told = ask(order(0, 1), *[find(0, how, [0, 0, 0, 0]) for how in range(4)])
        self.assertEqual(told, [0, 0, 0, 0, 0])

    def test_find_with_sign(self):
        told = ask(order(0, 9), put(TOP, 0, 0, 0), put(1, 0, 0, 0), find(0, 0, [0, 0, 0, 0]), find(0, 2, [0, 0, 0, 0]),
                   find(0, 0, [HALF, 0, 0, 0]), find(0, 3, [HALF - 1, 0, 0, 0]))
        self.assertEqual(told[3:], [2, 1, 1, 2])

    def counted(self, k, a, b):
        a = [a, 50, 0, 0]
        b = [b, 0, 50, 0]
        return self.table(many(k, a, b), sum_(k, 0, a, b), sum_(k, 1, a, b), sum_(k, 2, a, b))

    def test_many_and_sum_with_a_before_b(self):
        self.assertEqual(self.counted(0, 0, 100), [4, 80, 10, 0])
        self.assertEqual(self.counted(0, 10, 30), [3, 50, 6, 0])
        self.assertEqual(self.counted(0, 11, 31), [3, 70, 9, 0])
        self.assertEqual(self.counted(0, 10, 20), [1, 10, 1, 0])
        self.assertEqual(self.counted(0, 20, 21), [2, 40, 5, 0])
        self.assertEqual(self.counted(0, 21, 29), [0, 0, 0, 0])
        self.assertEqual(self.counted(1, 30, 10), [3, 70, 9, 0])

    def test_many_and_sum_with_a_behind_b(self):
        self.assertEqual(self.counted(0, 100, 0), [0, 0, 0, 0])
        self.assertEqual(self.counted(0, 30, 10), [0, 0, 0, 0])
        self.assertEqual(self.counted(0, 21, 20), [0, 0, 0, 0])
        self.assertEqual(self.counted(1, 10, 30), [0, 0, 0, 0])

    def test_many_and_sum_of_the_same_key(self):
        self.assertEqual(self.counted(0, 20, 20), [0, 0, 0, 0])
        self.assertEqual(self.counted(1, 10, 10), [0, 0, 0, 0])

    def test_sum_is_without_sign_and_beyond_64_bits(self):
        told = ask(order(0, 9), put(TOP, TOP, 0, 7), put(TOP - 1, TOP, 0, 8), put(3, TOP, 0, 9),
                   sum_(0, 0, [HALF, 0, 0, 0], [0, 0, 0, 0]), sum_(0, 1, [HALF, 0, 0, 0], [4, 0, 0, 0]),
                   sum_(0, 2, [HALF, 0, 0, 0], [4, 0, 0, 0]), sum_(0, 3, [HALF, 0, 0, 0], [4, 0, 0, 0]))
        self.assertEqual(told[4:], [2 * TOP - 1, 3 * TOP, 0, 24])

    def test_orders_are_numbered_from_0(self):
        self.assertEqual(ask(order(0, 1), order(1, 2), order(0, 1), count()), [0, 1, 2, [0, 3, 0, 1]])


class Unique(unittest.TestCase):
    def test_put_against_another_key(self):
        told = ask(order(1, 1, 2), put(1, 1, 0, 0), put(1, 2, 0, 0), put(1, 1, 9, 9), count(), nth(0, 2))
        self.assertEqual(told, [0, 1, 2, -20, [2, 1, 0, 3], 0])

    def test_put_when_the_other_is_gone_or_changed(self):
        told = ask(order(1, 1), put(1, 0, 0, 0), take(1), put(1, 0, 0, 0), set_(2, 2, 0, 0, 0), put(1, 0, 0, 0),
                   put(2, 0, 0, 0))
        self.assertEqual(told, [0, 1, 0, 2, 0, 3, -20])

    def test_set_against_another_key(self):
        told = ask(order(1, 1), put(1, 0, 0, 0), put(2, 0, 0, 0), set_(2, 1, 5, 5, 5), row(2), set_(1, 2, 0, 0, 0),
                   row(1), nth(0, 0), nth(0, 1), nth(0, 2))
        self.assertEqual(told, [0, 1, 2, -20, [2, 0, 0, 0], -20, [1, 0, 0, 0], 1, 2, 0])

    def test_set_to_its_own_key(self):
        told = ask(order(1, 1), put(1, 0, 0, 0), put(2, 0, 0, 0), set_(1, 1, 5, 5, 5), row(1))
        self.assertEqual(told[3:], [0, [1, 5, 5, 5]])

    def test_the_least_unique_order_is_told(self):
        told = ask(order(0, 1), order(1, 2), order(0, 1, 2), order(1, 3), put(0, 1, 2, 3),
                   put(0, 1, 2, 3), put(0, 9, 2, 3), put(0, 1, 9, 3), put(0, 9, 9, 3), set_(2, 0, 9, 2, 3))
        self.assertEqual(told[4:], [1, -21, -23, -21, 2, -23])

    def test_refusal_of_order_5(self):
        told = ask(*[order(0, 1)] * 5, order(1, 1), put(1, 0, 0, 0), put(1, 0, 0, 0), put(2, 0, 0, 0))
        self.assertEqual(told[5:], [5, 1, -25, 2])

    def test_other_orders_allow_the_same_key(self):
        self.assertEqual(ask(order(0, 1), order(1, 2), put(1, 1, 0, 0), put(1, 2, 0, 0))[2:], [1, 2])

    def test_unique_order_over_rows_of_the_same_key(self):
        told = ask(put(1, 1, 0, 0), put(2, 1, 0, 0), put(3, 2, 0, 0), order(1, 2), order(0, 2), order(1, 1),
                   take(1), order(1, 2), count())
        self.assertEqual(told[3:], [-5, 0, 1, 0, 2, [2, 3, 0, 4]])

    def test_unique_order_over_same_keys_that_stand_last(self):
        self.assertEqual(last(put(1, 0, 0, 0), put(2, 0, 0, 0), put(2, 0, 0, 0), order(1, 1)), -5)
        self.assertEqual(last(put(1, 0, 0, 0), put(1, 0, 0, 0), put(2, 0, 0, 0), order(1, 1)), -5)
        self.assertEqual(last(put(1, 0, 0, 0), put(2, 0, 0, 0), put(1, 0, 0, 0), order(1, 1)), -5)


class Cursors(unittest.TestCase):
    def test_cursor_and_drop(self):
        told = ask(order(0, 1), cursor(0, 0), cursor(0, 1), drop(0), drop(0), drop(1), drop(1), drop(HUGE))
        self.assertEqual(told, [0, 0, 1, 0, -4, 0, -4, -4])

    def test_the_least_free_number(self):
        told = ask(order(0, 1), order(0, 2), cursor(0, 0), cursor(1, 0), cursor(0, 1), cursor(1, 1), drop(2), drop(1),
                   cursor(0, 0), cursor(0, 0), cursor(0, 0))
        self.assertEqual(told[2:], [0, 1, 2, 3, 0, 0, 1, 2, 4])

    def test_rows_and_orders_leave_cursors_alone(self):
        told = ask(order(0, 1), cursor(0, 1), put(1, 0, 0, 0), set_(1, 2, 0, 0, 0), take(1), order(0, 2), cursor(1, 0),
                   count())
        self.assertEqual(told, [0, 0, 1, 0, 0, 1, 1, [0, 2, 0, 2]])


if __name__ == "__main__":
    unittest.main()
