"""The calls that change orders and rows. Each answers one number; below 0 it's a refusal, and nothing is changed."""

from standtable.order import Order
from standtable.refusals import KEY_TAKEN
from standtable.refusals import MARKS_BAR
from standtable.refusals import NOT_THERE
from standtable.refusals import NO_ROOM
from standtable.refusals import SAME_KEYS
from standtable.refusals import WRONG_FORM
from standtable.rules import is_order
from standtable.rules import is_row
from standtable.table import ROOM_FOR_ORDERS


def begin_anew(table):
    """Make the table new."""
    table.begin()
    return 0


def add_order(table, unique, codes):
    """Add an order with all rows in it, and answer its number."""
    if unique > 1 or not is_order(codes):
        return WRONG_FORM
    if len(table.orders) >= ROOM_FOR_ORDERS:
        return NO_ROOM
    order = Order(codes, unique == 1)
    order.stand_all(table.rows)
    if order.unique and order.has_same_keys():
        return SAME_KEYS
    if len(table.marks) > 0:
        return MARKS_BAR
    table.orders.append(order)
    return len(table.orders) - 1


def refusal_of_fields(table, number, row):
    """The refusal when row number is to have these fields and unique orders or marks bar it, or 0."""
    barring = table.barring_order(number, row)
    if barring is not None:
        return KEY_TAKEN - barring
    if not table.has_room_for_change():
        return MARKS_BAR
    return 0


def put_row(table, row):
    """Put a row, and answer its number."""
    if not is_row(row):
        return WRONG_FORM
    if not table.has_room_for_row():
        return NO_ROOM
    number = table.next_number
    refusal = refusal_of_fields(table, number, row)
    if refusal < 0:
        return refusal
    table.add_row(number, row)
    table.next_number = number + 1
    table.note_change()
    return number


def set_row(table, number, row):
    """Give a row other fields, and take the cursors that follow it along."""
    if not is_row(row):
        return WRONG_FORM
    if number not in table.rows:
        return NOT_THERE
    refusal = refusal_of_fields(table, number, row)
    if refusal < 0:
        return refusal
    table.move_followers(number, row)
    table.remove_row(number)
    table.add_row(number, row)
    table.note_change()
    return 0


def take_row(table, number):
    """Take a row out."""
    if number not in table.rows:
        return NOT_THERE
    if not table.has_room_for_change():
        return MARKS_BAR
    table.remove_row(number)
    table.note_change()
    return 0
