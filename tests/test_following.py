"""How set takes cursors along. No call moves a cursor yet, so these tests place them on the table itself."""

import unittest

from standtable.changes import add_cursor, add_order, put_row, set_row, take_row
from standtable.table import Table


def table_with_cursors():
    """Rows 1 and 2, and on order 0 cursor 0 that follows and cursor 1 that doesn't, both at row 1."""
    table = Table()
    add_order(table, 0, [1])
    put_row(table, [10, 0, 0, 0])
    put_row(table, [20, 0, 0, 0])
    for c in (0, 1):
        add_cursor(table, 0, 1 - c)
        table.cursors[c].place = table.orders[0].place_of(1, [10, 0, 0, 0])
    return table


def places(table):
    return [table.cursors[c].place for c in sorted(table.cursors)]


class Following(unittest.TestCase):
    def test_only_the_one_that_follows_goes_along(self):
        table = table_with_cursors()
        self.assertEqual(set_row(table, 1, [30, 0, 0, 0]), 0)
        order = table.orders[0]
        self.assertEqual(places(table), [order.place_of(1, [30, 0, 0, 0]), order.place_of(1, [10, 0, 0, 0])])

    def test_another_row_takes_none_along(self):
        table = table_with_cursors()
        before = places(table)
        self.assertEqual(set_row(table, 2, [10, 0, 0, 0]), 0)
        self.assertEqual(places(table), before)

    def test_a_refused_set_takes_none_along(self):
        table = table_with_cursors()
        add_order(table, 1, [2, 1])
        before = places(table)
        self.assertEqual(set_row(table, 1, [20, 0, 0, 0]), -21)
        table.marks.append("a mark")
        table.changes = 512
        self.assertEqual(set_row(table, 1, [30, 0, 0, 0]), -9)
        self.assertEqual(places(table), before)

    def test_a_cursor_between_rows_stays(self):
        table = table_with_cursors()
        table.cursors[0].place = table.orders[0].place_of(1, [15, 0, 0, 0])
        before = places(table)
        set_row(table, 1, [30, 0, 0, 0])
        self.assertEqual(places(table), before)

    def test_a_row_that_is_taken_leaves_its_cursors(self):
        table = table_with_cursors()
        before = places(table)
        take_row(table, 1)
        put_row(table, [10, 0, 0, 0])
        self.assertEqual(places(table), before)

    def test_a_new_cursor_is_before_every_place(self):
        table = Table()
        top = 2 ** 64 - 1
        for k, code in enumerate((1, 5, 9, 13)):
            add_order(table, 0, [code])
            add_cursor(table, k, 1)
            for value in (0, 2 ** 63 - 1, 2 ** 63, top):
                self.assertLess(table.cursors[k].place, table.orders[k].place_of(0, [value, 0, 0, 0]))


if __name__ == "__main__":
    unittest.main()
