"""The room that a table has, and what's refused when it's full."""

import unittest

from tests.writing import ask, count, cursor, drop, load, mark, nth, order, put, rank, row, saved, set_, take


def full_table():
    """Calls that put 256 rows, each with its number as its field 0."""
    return [order(1, 5)] + [put(n, 0, 0, 0) for n in range(1, 257)]


class Rooms(unittest.TestCase):
    def test_the_256th_and_the_257th_row(self):
        told = ask(*full_table(), put(999, 0, 0, 0), count(), nth(0, 255), nth(0, 256), rank(0, 1))
        self.assertEqual(told[256:], [256, -3, [256, 1, 0, 257], 1, 0, 255])

    def test_within_a_hundred_calls(self):
        rows = [(n, [n, 0, 0, 0]) for n in range(1, 256)]
        told = ask(load(saved([(1, [5])], rows, 300)), put(999, 0, 0, 0), put(9999, 0, 0, 0), nth(0, 0), nth(0, 255))
        self.assertEqual(told, [0, 300, -3, 300, 1])

    def test_a_full_table_takes_a_row_when_one_is_gone(self):
        told = ask(*full_table(), take(17), put(17, 1, 0, 0), put(999, 0, 0, 0), row(257), count())
        self.assertEqual(told[257:], [0, 257, -3, [17, 1, 0, 0], [256, 1, 0, 258]])

    def test_a_full_table_can_be_set(self):
        told = ask(*full_table(), set_(3, 0, 0, 0, 0), nth(0, 255), set_(4, 5, 0, 0, 0))
        self.assertEqual(told[257:], [0, 3, -20])

    def test_the_sixth_and_the_seventh_order(self):
        told = ask(*[order(0, 1)] * 7, count(), nth(5, 0), nth(6, 0))
        self.assertEqual(told, [0, 1, 2, 3, 4, 5, -3, [0, 6, 0, 1], 0, -2])

    def test_the_16th_and_the_17th_cursor(self):
        told = ask(order(0, 1), *[cursor(0, 0)] * 17, drop(9), cursor(0, 1), cursor(0, 1), drop(16), drop(15))
        self.assertEqual(told[1:], list(range(16)) + [-3, 0, 9, -3, -4, 0])

    def test_the_eighth_and_the_ninth_mark(self):
        self.assertEqual(ask(*[mark()] * 9, count()), list(range(1, 9)) + [-3, [0, 0, 8, 1]])


if __name__ == "__main__":
    unittest.main()
