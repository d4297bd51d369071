"""The calls on cursors. Each answers one number; below 0 it's a refusal, and nothing is changed."""

from standtable.order import FIRST_NUMBER
from standtable.order import LAST_NUMBER
from standtable.refusals import NOT_THERE
from standtable.refusals import NO_ORDER
from standtable.refusals import NO_ROOM
from standtable.refusals import WRONG_FORM
from standtable.rules import is_row
from standtable.table import Cursor
from standtable.table import ROOM_FOR_CURSORS


def add_cursor(table, k, follows):
    """Add a cursor before all on order k, and answer the least number that was free."""
    if follows > 1:
        return WRONG_FORM
    if not table.has_order(k):
        return NO_ORDER
    for number in range(ROOM_FOR_CURSORS):
        if number not in table.cursors:
            table.cursors[number] = Cursor(k, follows == 1)
            return number
    return NO_ROOM


def drop_cursor(table, c):
    """Take a cursor away."""
    if c not in table.cursors:
        return NOT_THERE
    table.cursors.pop(c)
    return 0


def go_to_row(table, c, number):
    """Stand a cursor at a row's place."""
    if c not in table.cursors or number not in table.rows:
        return NOT_THERE
    cursor = table.cursors[c]
    cursor.place = table.orders[cursor.k].place_of(number, table.rows[number])
    return 0


def seek_key(table, c, behind, key):
    """Stand a cursor before all rows of a key, or behind them all."""
    if behind > 1 or not is_row(key):
        return WRONG_FORM
    if c not in table.cursors:
        return NOT_THERE
    cursor = table.cursors[c]
    number = LAST_NUMBER if behind == 1 else FIRST_NUMBER
    cursor.place = table.orders[cursor.k].place_of(number, key)
    return 0


def row_at_cursor(table, c):
    """Answer the number of the row that a cursor is at, or 0."""
    if c not in table.cursors:
        return NOT_THERE
    return table.row_at(table.cursors[c])


def step_on(table, c):
    """Move a cursor to the first row behind it, and answer that row's number, or 0."""
    if c not in table.cursors:
        return NOT_THERE
    cursor = table.cursors[c]
    cursor.place = table.orders[cursor.k].place_behind(cursor.place)
    return cursor.place[1]


def step_back(table, c):
    """Move a cursor to the last row before it, and answer that row's number, or 0."""
    if c not in table.cursors:
        return NOT_THERE
    cursor = table.cursors[c]
    cursor.place = table.orders[cursor.k].place_before(cursor.place)
    return cursor.place[1]
