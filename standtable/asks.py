"""The calls that ask a table and change nothing."""

from standtable.refusals import NOT_THERE
from standtable.refusals import NO_ORDER
from standtable.refusals import WRONG_FORM
from standtable.rules import FIELDS
from standtable.rules import is_row

LAST_HOW = 3


def has_row(table, number):
    """Answer 1 if the row is there, else 0."""
    return 1 if number in table.rows else 0


def fields_of_row(table, number):
    """Answer a list: the row's fields, or the refusal alone."""
    if number not in table.rows:
        return [NOT_THERE]
    return list(table.rows[number])


def counts(table):
    """Answer a list: how many rows, orders and marks there are, and the next number."""
    return [len(table.rows), len(table.orders), len(table.marks), table.next_number]


def nth_row(table, k, position):
    """Answer the number of the row that has so many rows before it, or 0."""
    if not table.has_order(k):
        return NO_ORDER
    return table.orders[k].number_at(position)


def rank_of_row(table, k, number):
    """Answer how many rows stand before a row."""
    if not table.has_order(k):
        return NO_ORDER
    if number not in table.rows:
        return NOT_THERE
    order = table.orders[k]
    return order.how_many_before(order.place_of(number, table.rows[number]))


def find_row(table, k, how, key):
    """Answer the number of the row next to key, or 0: behind it (how 0, 1) or before it (2, 3)."""
    if how > LAST_HOW or not is_row(key):
        return WRONG_FORM
    if not table.has_order(k):
        return NO_ORDER
    order = table.orders[k]
    if how == 0:
        return order.number_at(order.how_many_before_key(key))
    if how == 1:
        return order.number_at(order.how_many_up_to_key(key))
    if how == 2:
        return order.number_at(order.how_many_before_key(key) - 1)
    return order.number_at(order.how_many_up_to_key(key) - 1)


def how_many_between(table, k, first, end):
    """Answer how many rows aren't before first and are before end."""
    if not is_row(first) or not is_row(end):
        return WRONG_FORM
    if not table.has_order(k):
        return NO_ORDER
    return len(table.orders[k].numbers_between(first, end))


def sum_between(table, k, field, first, end):
    """Answer the sum of a field, without signs, over the rows that aren't before first and are before end."""
    if field >= FIELDS or not is_row(first) or not is_row(end):
        return WRONG_FORM
    if not table.has_order(k):
        return NO_ORDER
    return sum([table.rows[number][field] for number in table.orders[k].numbers_between(first, end)])
