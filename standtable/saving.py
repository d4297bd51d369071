"""The calls save and load, and the bytes that a table is written in."""

from standtable.octets import FIELD_LENGTH
from standtable.octets import octets_of
from standtable.octets import value_of
from standtable.order import Order
from standtable.reader import Reader
from standtable.refusals import NO_TABLE
from standtable.rules import FIELDS
from standtable.rules import is_order
from standtable.table import LAST_ROW_NUMBER
from standtable.table import ROOM_FOR_ORDERS
from standtable.table import ROOM_FOR_ROWS
from standtable.table import Table

NUMBER_LENGTH = 4
ORDER_LENGTH = 5
ROW_LENGTH = 36


def written_order(order):
    """The bytes of an order."""
    zeros = [0] * (FIELDS - len(order.codes))
    return list(order.codes) + zeros + [1 if order.unique else 0]


def written_row(number, row):
    """The bytes of a row and its number."""
    octets = octets_of(number, NUMBER_LENGTH)
    for value in row:
        octets.extend(octets_of(value, FIELD_LENGTH))
    return octets


def written_table(table):
    """The bytes of a table: its orders, rows and next number."""
    octets = [len(table.orders)]
    for order in table.orders:
        octets.extend(written_order(order))
    octets.extend(octets_of(len(table.rows), NUMBER_LENGTH))
    octets.extend(octets_of(table.next_number, NUMBER_LENGTH))
    for number in sorted(table.rows):
        octets.extend(written_row(number, table.rows[number]))
    return octets


def has_table_length(octets):
    """Tell if there are no more orders and rows than find room, and just as many bytes as they need."""
    if len(octets) < 1 or octets[0] > ROOM_FOR_ORDERS:
        return False
    start = 1 + octets[0] * ORDER_LENGTH
    rows = value_of(octets[start:start + NUMBER_LENGTH])
    length = start + NUMBER_LENGTH + NUMBER_LENGTH + rows * ROW_LENGTH
    return rows <= ROOM_FOR_ROWS and len(octets) == length


def read_value(reader, length):
    """Read a number that's written in so many bytes."""
    return value_of(reader.read_numbers(length))


def read_order(reader):
    """Read an order, sound or not."""
    codes = [code for code in reader.read_numbers(FIELDS) if code != 0]
    return Order(codes, reader.read_number() == 1)


def read_table(reader):
    """Read a table, sound or not, from bytes that have a table's length. Its orders have no rows yet."""
    table = Table()
    orders = reader.read_number()
    for each in range(orders):
        table.orders.append(read_order(reader))
    rows = read_value(reader, NUMBER_LENGTH)
    table.next_number = read_value(reader, NUMBER_LENGTH)
    for each in range(rows):
        number = read_value(reader, NUMBER_LENGTH)
        table.rows[number] = tuple([read_value(reader, FIELD_LENGTH) for field in range(FIELDS)])
    return table


def has_sound_parts(table):
    """Tell if orders, next number and rows' numbers are such as a table can have."""
    if not all([is_order(order.codes) for order in table.orders]):
        return False
    if table.next_number < 1 or table.next_number > LAST_ROW_NUMBER + 1:
        return False
    return all([1 <= number < table.next_number for number in table.rows])


def save_table(table):
    """Answer a list: how many bytes the table has, and these."""
    octets = written_table(table)
    return [len(octets)] + octets


def load_table(table, octets):
    """Make the table the one of these bytes, without cursors and marks."""
    if not has_table_length(octets):
        return NO_TABLE
    loaded = read_table(Reader(octets))
    # Reading passes over what's written in another form than save writes it: rows that don't rise,
    # a zero among an order's numbers, a byte for unique that is neither 0 nor 1. Writing shows it.
    if not has_sound_parts(loaded) or written_table(loaded) != octets:
        return NO_TABLE
    loaded.stand_rows()
    if any([order.unique and order.has_same_keys() for order in loaded.orders]):
        return NO_TABLE
    table.become(loaded)
    return 0
