"""The room that a table has, and what's refused when it's full."""

import unittest

from standtable.changes import add_order, put_row, set_row, take_row
from standtable.table import Table
from tests.writing import ask, count, cursor, drop, nth, order, put, rank, row, set_, take


def full_table():
    """Calls that put 256 rows, each with its number as its field 0."""
    return [order(1, 5)] + [put(n, 0, 0, 0) for n in range(1, 257)]


def marked(changes):
    """A table with one row, on which a mark stands and so many changes since."""
    table = Table()
    add_order(table, 1, [1])
    put_row(table, [1, 0, 0, 0])
    table.marks.append("a mark")
    table.changes = changes
    return table


class Rooms(unittest.TestCase):
    def test_the_256th_and_the_257th_row(self):
        told = ask(*full_table(), put(999, 0, 0, 0), count(), nth(0, 255), nth(0, 256), rank(0, 1))
        self.assertEqual(told[256:], [256, -3, [256, 1, 0, 257], 1, 0, 255])

    def test_a_full_table_takes_a_row_when_one_is_gone(self):
        told = ask(*full_table(), take(17), put(17, 1, 0, 0), put(999, 0, 0, 0), row(257), count())
        self.assertEqual(told[257:], [0, 257, -3, [17, 1, 0, 0], [256, 1, 0, 258]])

    def test_a_full_table_can_be_set(self):
        told = ask(*full_table(), set_(3, 0, 0, 0, 0), nth(0, 255), set_(4, 5, 0, 0, 0))
        self.assertEqual(told[257:], [0, 3, -20])

    def test_the_sixth_and_the_seventh_order(self):
        told = ask(*[order(0, 1)] * 7, count(), nth(5, 0), nth(6, 0))
        self.assertEqual(told, [0, 1, 2, 3, 4, 5, -3, [0, 6, 0, 1], 0, -2])

    def test_the_16th_and_the_17th_cursor(self):
        told = ask(order(0, 1), *[cursor(0, 0)] * 17, drop(9), cursor(0, 1), cursor(0, 1), drop(16), drop(15))
        self.assertEqual(told[1:], list(range(16)) + [-3, 0, 9, -3, -4, 0])


class Numbers(unittest.TestCase):
    def test_the_last_number_and_none_left(self):
        table = Table()
        table.next_number = 2147483646
        self.assertEqual([put_row(table, [1, 0, 0, 0]) for each in range(3)], [2147483646, 2147483647, -3])
        self.assertEqual(table.next_number, 2147483648)
        self.assertEqual(sorted(table.rows), [2147483646, 2147483647])

    def test_taken_rows_give_no_number_back(self):
        table = Table()
        table.next_number = 2147483647
        self.assertEqual([put_row(table, [1, 0, 0, 0]), take_row(table, 2147483647), put_row(table, [1, 0, 0, 0])],
                         [2147483647, 0, -3])

    def test_the_last_number_stands_behind_others_of_its_key(self):
        table = Table()
        add_order(table, 0, [1])
        put_row(table, [7, 0, 0, 0])
        table.next_number = 2147483647
        put_row(table, [7, 0, 0, 0])
        self.assertEqual([table.orders[0].number_at(at) for at in range(3)], [1, 2147483647, 0])
        self.assertEqual(table.orders[0].how_many_up_to_key([7, 0, 0, 0]), 2)

    def test_no_room_comes_before_a_taken_key(self):
        table = Table()
        add_order(table, 1, [1])
        table.next_number = 2147483647
        self.assertEqual([put_row(table, [1, 0, 0, 0]) for each in range(2)], [2147483647, -3])


class Changes(unittest.TestCase):
    """No call sets a mark yet, so these tests set it on the table itself."""

    def test_512_changes_may_stand(self):
        table = marked(511)
        self.assertEqual(put_row(table, [2, 0, 0, 0]), 2)
        self.assertEqual(table.changes, 512)
        self.assertEqual([put_row(table, [3, 0, 0, 0]), set_row(table, 1, [4, 0, 0, 0]), take_row(table, 1)], [-9] * 3)
        self.assertEqual((table.rows, table.next_number, table.changes), ({1: (1, 0, 0, 0), 2: (2, 0, 0, 0)}, 3, 512))

    def test_what_is_refused_does_not_count(self):
        table = marked(7)
        self.assertEqual([put_row(table, [1]), put_row(table, [1, 0, 0, 0]), set_row(table, 9, [0, 0, 0, 0]),
                          take_row(table, 9)], [-1, -20, -4, -4])
        self.assertEqual(table.changes, 7)

    def test_put_set_and_take_count_one_each(self):
        table = marked(0)
        self.assertEqual([put_row(table, [2, 0, 0, 0]), set_row(table, 2, [2, 0, 0, 0]), take_row(table, 2)], [2, 0, 0])
        self.assertEqual(table.changes, 3)

    def test_without_marks_nothing_counts(self):
        table = Table()
        table.changes = 512
        self.assertEqual([put_row(table, [2, 0, 0, 0]), set_row(table, 1, [3, 0, 0, 0]), take_row(table, 1)], [1, 0, 0])
        self.assertEqual(table.changes, 512)

    def test_a_new_table_has_no_marks_and_no_changes(self):
        table = marked(512)
        table.begin()
        self.assertEqual((table.marks, table.changes), ([], 0))

    def test_other_refusals_come_first(self):
        table = marked(512)
        put_again = [put_row(table, [1, 0, 0, 0]), put_row(table, [1])]
        self.assertEqual(put_again, [-20, -1])
        self.assertEqual([set_row(table, 9, [0, 0, 0, 0]), take_row(table, 9)], [-4, -4])

    def test_no_order_while_a_mark_stands(self):
        table = marked(0)
        put_row(table, [2, 0, 0, 0])
        told = [add_order(table, 0, [1]), add_order(table, 1, [2]), add_order(table, 1, [2, 2])]
        self.assertEqual(told, [-9, -5, -1])
        self.assertEqual(len(table.orders), 1)


if __name__ == "__main__":
    unittest.main()
