"""A table's bytes: what save answers, and that load takes just those that save could have answered."""

import random
import unittest

from tests.model import Model
from tests.writing import (HALF, TOP, ask, at, back, count, cursor, find, go, keep, last, load, low_first, mark, new,
                           next_, nth, order, put, rank, row, save, saved, saved_row, set_, take)

FEW = saved([(0, [1]), (1, [6, 3])], [(2, [5, 6, 7, 8]), (9, [5, 1, TOP, HALF])], 12)
# Where the bytes of FEW begin that tell how many rows there are, the next number, and the rows.
ROWS, NEXT, FIRST, SECOND = 11, 15, 19, 55


def octets(*calls):
    """The bytes that save answers behind these calls."""
    told = last(*calls, save())
    if told[0] != len(told) - 1:
        raise AssertionError("the length isn't right: %r" % (told,))
    return told[1:]


def changed(at_, *others):
    """FEW with other bytes from there on."""
    return FEW[:at_] + list(others) + FEW[at_ + len(others):]


class Save(unittest.TestCase):
    def test_the_new_table(self):
        self.assertEqual(ask(save()), [[9, 0, 0, 0, 0, 0, 1, 0, 0, 0]])
        self.assertEqual(last(order(0, 1), put(1, 2, 3, 4), new(), save()), [9, 0, 0, 0, 0, 0, 1, 0, 0, 0])

    def test_byte_by_byte(self):
        told = octets(order(1, 16, 1), put(1, 0x0102030405060708, TOP, HALF), put(3, 0, 0, 256))
        self.assertEqual(told, [1, 16, 1, 0, 0, 1, 2, 0, 0, 0, 3, 0, 0, 0,
                                1, 0, 0, 0, 1, 0, 0, 0, 0, 0, 0, 0, 8, 7, 6, 5, 4, 3, 2, 1,
                                255, 255, 255, 255, 255, 255, 255, 255, 0, 0, 0, 0, 0, 0, 0, 128,
                                2, 0, 0, 0, 3, 0, 0, 0, 0, 0, 0, 0, 0, 0, 0, 0, 0, 0, 0, 0,
                                0, 0, 0, 0, 0, 0, 0, 0, 0, 1, 0, 0, 0, 0, 0, 0])

    def test_six_orders(self):
        codes = [[1], [6, 1], [11, 2, 5], [13, 10, 7, 4], [16], [4, 3, 2, 1]]
        told = octets(*[order(k % 2, *codes[k]) for k in range(6)])
        self.assertEqual(told, [6, 1, 0, 0, 0, 0, 6, 1, 0, 0, 1, 11, 2, 5, 0, 0, 13, 10, 7, 4, 1, 16, 0, 0, 0, 0,
                                4, 3, 2, 1, 1, 0, 0, 0, 0, 1, 0, 0, 0])

    def test_256_rows(self):
        rows = [(n, [n * n, TOP - n, 0, HALF + n]) for n in range(1, 257)]
        told = octets(order(1, 1), *[put(*fields) for n, fields in rows])
        self.assertEqual(len(told), 1 + 5 + 8 + 36 * 256)
        self.assertEqual(told, saved([(1, [1])], rows, 257))

    def test_the_longest(self):
        rows = [(n, [n, 0, 0, 0]) for n in range(2 ** 31 - 256, 2 ** 31)]
        bytes_ = saved([(1, [1, 2, 3, 4])] * 6, rows, 2 ** 31)
        self.assertEqual(ask(load(bytes_), save(), count()), [0, [9255] + bytes_, [256, 6, 0, 2 ** 31]])

    def test_rows_stand_by_numbers(self):
        told = octets(order(0, 5), put(1, 0, 0, 0), put(9, 0, 0, 0), put(5, 0, 0, 0), put(7, 0, 0, 0), take(3),
                      set_(1, 8, 0, 0, 0))
        self.assertEqual(told, saved([(0, [5])], [(1, [8, 0, 0, 0]), (2, [9, 0, 0, 0]), (4, [7, 0, 0, 0])], 5))

    def test_rows_stand_by_numbers_after_back(self):
        told = octets(put(1, 0, 0, 0), put(2, 0, 0, 0), mark(), set_(1, 5, 0, 0, 0), take(1), put(3, 0, 0, 0), back())
        self.assertEqual(told, saved([], [(1, [1, 0, 0, 0]), (2, [2, 0, 0, 0])], 3))

    def test_cursors_and_marks_are_not_in_it(self):
        start = [order(0, 1), put(1, 0, 0, 0)]
        self.assertEqual(octets(*start, cursor(0, 1), next_(0), mark(), mark()), octets(*start))

    def test_save_changes_nothing(self):
        told = ask(order(0, 1), put(1, 0, 0, 0), cursor(0, 1), next_(0), mark(), save(), save(), at(0), count())
        self.assertEqual(told[5], told[6])
        self.assertEqual(told[7:], [1, [1, 1, 1, 2]])


class Load(unittest.TestCase):
    def test_what_save_answered(self):
        told = ask(load(FEW), save(), count(), row(2), row(9), row(1), nth(0, 0), nth(0, 1), nth(1, 0), nth(1, 1))
        self.assertEqual(told, [0, [len(FEW)] + FEW, [2, 2, 0, 12], [5, 6, 7, 8], [5, 1, TOP, HALF], -4, 2, 9, 2, 9])

    def test_the_new_table(self):
        self.assertEqual(ask(put(1, 2, 3, 4), load([0] * 5 + [1, 0, 0, 0]), count()), [1, 0, [0, 0, 0, 1]])

    def test_it_goes_on_from_there(self):
        told = ask(load(FEW), put(0, 6, 7, 0), put(0, 0, 0, 0), nth(0, 0), find(1, 0, [0, 1, 0, 0]), rank(1, 12),
                   order(0, 9), nth(2, 0), take(2), put(0, 6, 7, 0), count())
        self.assertEqual(told, [0, -21, 12, 12, 9, 2, 2, 12, 0, 13, [3, 3, 0, 14]])

    def test_orders_are_unique_or_not_as_saved(self):
        bytes_ = saved([(0, [1]), (1, [2])], [(1, [1, 1, 0, 0])], 2)
        self.assertEqual(ask(load(bytes_), put(1, 1, 0, 0), put(1, 2, 0, 0)), [0, -21, 2])

    def test_no_cursors_and_no_marks_afterwards(self):
        start = [order(0, 1), put(1, 0, 0, 0), cursor(0, 1), cursor(0, 0), go(1, 1), mark(), mark()]
        told = ask(*start, load(FEW), at(0), next_(1), back(), keep(), count(), order(0, 1), cursor(2, 0))[7:]
        self.assertEqual(told, [0, -4, -4, -4, -4, [2, 2, 0, 12], 2, 0])

    def test_a_refused_load_changes_nothing(self):
        start = [order(1, 1), put(1, 0, 0, 0), put(2, 0, 0, 0), cursor(0, 1), go(0, 1), mark(), put(3, 0, 0, 0)]
        told = ask(*start, save(), load(FEW[:-1]), load([]), load(changed(10, 2)), save(), at(0), next_(0), count(),
                   back(), count())[7:]
        self.assertEqual(told[1:4], [-6, -6, -6])
        self.assertEqual(told[0], told[4])
        self.assertEqual(told[5:], [1, 2, [3, 1, 1, 4], 0, [2, 1, 0, 3]])

    def test_no_number_left(self):
        told = ask(load(saved([(1, [1])], [], 2 ** 31 - 2)), put(1, 0, 0, 0), put(2, 0, 0, 0), put(3, 0, 0, 0), count(),
                   put(1, 0, 0, 0), put(1), take(2 ** 31 - 1), put(4, 0, 0, 0), save())
        bytes_ = saved([(1, [1])], [(2 ** 31 - 2, [1, 0, 0, 0])], 2 ** 31)
        self.assertEqual(told, [0, 2 ** 31 - 2, 2 ** 31 - 1, -3, [2, 1, 0, 2 ** 31], -3, -1, 0, -3,
                                [len(bytes_)] + bytes_])
        self.assertEqual(ask(load(bytes_), put(3, 0, 0, 0), row(2 ** 31 - 2)), [0, -3, [1, 0, 0, 0]])

    def test_the_last_number_stands_behind_others_of_its_key(self):
        bytes_ = saved([(0, [1])], [(1, [7, 0, 0, 0])], 2 ** 31 - 1)
        told = ask(load(bytes_), put(7, 0, 0, 0), nth(0, 0), nth(0, 1), find(0, 3, [7, 0, 0, 0]))
        self.assertEqual(told, [0, 2 ** 31 - 1, 1, 2 ** 31 - 1, 2 ** 31 - 1])


class NoTable(unittest.TestCase):
    """One thing wrong at a time."""

    def refused(self, bytes_):
        self.assertEqual(ask(load(bytes_), count()), [-6, [0, 0, 0, 1]], bytes_[:60])

    def taken(self, bytes_):
        self.assertEqual(ask(load(bytes_), save()), [0, [len(bytes_)] + list(bytes_)])

    def test_too_short(self):
        for length in range(len(FEW)):
            self.refused(FEW[:length])

    def test_too_long(self):
        for more in ([0], [1], [0] * 36, FEW):
            self.refused(FEW + more)
        self.refused([0] * 5 + [1, 0, 0, 0, 0])

    def test_longest_lists(self):
        for byte in (0, 1, 255):
            self.refused([byte] * 10000)

    def test_seven_orders(self):
        self.taken(saved([(0, [1])] * 6, [], 1))
        for length in (7, 8, 255):
            self.refused(saved([(0, [1])] * length, [], 1))

    def test_the_number_of_orders_is_another(self):
        for length in (0, 1, 3, 6, 7, 255):
            self.refused(changed(0, length))

    def test_orders_that_are_none(self):
        for codes in ([0, 0, 0, 0], [17, 0, 0, 0], [255, 0, 0, 0], [1, 1, 0, 0], [1, 5, 0, 0], [1, 9, 13, 0],
                      [1, 2, 3, 17], [1, 2, 3, 5], [2, 255, 0, 0]):
            self.refused(changed(1, *codes))

    def test_a_number_behind_a_zero(self):
        for codes in ([0, 1, 0, 0], [1, 0, 2, 0], [1, 0, 0, 2], [1, 2, 0, 3], [0, 0, 0, 1], [0, 1, 2, 3]):
            self.refused(changed(1, *codes))
        for codes in ([1, 0, 0, 0], [1, 2, 0, 0], [1, 2, 3, 0], [1, 2, 3, 4]):
            self.taken(changed(1, *codes))

    def test_the_unique_byte(self):
        for byte in (2, 3, 128, 255):
            self.refused(changed(5, byte))
            self.refused(changed(10, byte))
        self.taken(changed(10, 0))

    def test_257_rows(self):
        rows = [(n, [n, 0, 0, 0]) for n in range(1, 258)]
        self.taken(saved([], rows[:256], 257))
        self.taken(saved([], rows[1:], 258))
        self.refused(saved([], rows, 258))

    def test_the_number_of_rows_is_another(self):
        for number in (0, 1, 3, 258, 2 + 2 ** 16, 2 + 2 ** 24, 2 ** 32 - 1):
            self.refused(changed(ROWS, *low_first(number, 4)))

    def test_row_numbers_that_do_not_rise(self):
        for first, second in ((9, 2), (9, 9), (2, 2), (10, 9), (2, 1)):
            self.refused(saved([(0, [1])], [(first, [1, 2, 3, 4]), (second, [5, 6, 7, 8])], 12))
        self.taken(changed(FIRST, *low_first(8, 4)))

    def test_number_0(self):
        self.refused(changed(FIRST, 0, 0, 0, 0))
        self.taken(changed(FIRST, 1, 0, 0, 0))
        self.refused(saved([], [(0, [1, 2, 3, 4])], 1))

    def test_a_number_not_below_the_next(self):
        for number in (12, 13, 2 ** 31, 2 ** 32 - 1):
            self.refused(changed(SECOND, *low_first(number, 4)))
        self.taken(changed(SECOND, 11, 0, 0, 0))
        self.refused(saved([], [(2 ** 31, [1, 2, 3, 4])], 2 ** 31))

    def test_the_next_number(self):
        for number in (0, 1, 2, 9, 2 ** 31 + 1, 2 ** 32 - 1):
            self.refused(changed(NEXT, *low_first(number, 4)))
        for number in (10, 11, 2 ** 31 - 1, 2 ** 31):
            self.taken(changed(NEXT, *low_first(number, 4)))
        self.refused(saved([], [], 0))
        self.refused(saved([], [], 2 ** 31 + 1))
        self.taken(saved([], [], 2 ** 31))

    def test_unique_orders_that_are_not(self):
        self.refused(changed(5, 1))
        rows = [(1, [1, 2, 3, 4]), (2, [5, 6, 7, 8]), (3, [1, 2, 0, 0])]
        self.refused(saved([(1, [1])], rows, 4))
        self.refused(saved([(0, [1]), (0, [2]), (1, [9, 6])], rows, 4))
        self.taken(saved([(0, [1]), (0, [2]), (1, [9, 7])], rows, 4))
        self.taken(saved([(1, [1])], rows[:2], 4))

    def test_numbers_that_are_no_bytes(self):
        self.refused(changed(SECOND + 5, 256))
        self.refused(changed(ROWS, 2 + 256))


class JustWhatCouldBeWritten(unittest.TestCase):
    """P6: bytes are taken just if they could have been written; what's read is what was saved."""

    TABLES = [
        saved([], [], 1),
        saved([(1, [1])], [(1, [0, 0, 0, 0])], 2),
        saved([(0, [16, 1])], [(1, [0, 0, 0, 0]), (3, [TOP, 1, 2, 3])], 5),
        FEW,
    ]

    def check(self, bytes_):
        model = Model()
        wanted = model.load(list(bytes_))
        told = ask(load(bytes_), save())
        self.assertEqual(told, wanted + [model.save()])
        if told[0] == 0:
            self.assertEqual(told[1][1:], bytes_)

    def test_each_byte_changed(self):
        for table in self.TABLES:
            for index in range(len(table)):
                for byte in (0, 1, 2, 3, 5, 6, 7, 9, 16, 17, 127, 128, 255, table[index] ^ 1, table[index] ^ 128):
                    self.check(table[:index] + [byte] + table[index + 1:])

    def test_each_byte_gone_or_twice(self):
        for table in self.TABLES:
            for index in range(len(table)):
                self.check(table[:index] + table[index + 1:])
                self.check(table[:index + 1] + table[index:])

    def test_bytes_by_chance(self):
        dice = random.Random(1)
        for each in range(3000):
            orders = [(dice.choice([0, 0, 1]), [dice.choice([1, 2, 3, 4, 5, 14]) for each in range(dice.randint(1, 3))])
                      for each in range(dice.randrange(3))]
            numbers = [dice.randrange(6) for each in range(dice.randrange(4))]
            if dice.random() < 0.7:
                numbers = sorted(numbers)
            rows = [(n, [dice.randrange(3) for each in range(4)]) for n in numbers]
            self.check(saved(orders, rows, dice.choice([0, 1, 4, 5, 6, 7, 9])))

    def test_rows_written_in_another_order(self):
        start = saved([], [], 9)[:-8] + low_first(2, 4) + low_first(9, 4)
        one, two = saved_row(3, [1, 2, 3, 4]), saved_row(4, [1, 2, 3, 4])
        self.assertEqual(ask(load(start + one + two), load(start + two + one), load(start + one + one)), [0, -6, -6])


if __name__ == "__main__":
    unittest.main()
