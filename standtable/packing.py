"""The calls that ask of orders and rows by themselves, without a table."""

from standtable.octets import FIELD_LENGTH
from standtable.octets import octets_of
from standtable.octets import value_of
from standtable.refusals import WRONG_FORM
from standtable.rules import FIELDS
from standtable.rules import field_of
from standtable.rules import is_order
from standtable.rules import is_row
from standtable.rules import key_of
from standtable.rules import turned

PACK_LENGTH = 32


def is_pack(octets):
    """Tell if these numbers are as many bytes as a row is packed in."""
    return len(octets) == PACK_LENGTH and all([0 <= octet <= 255 for octet in octets])


def is_sound(codes):
    """Answer 1 if these numbers are an order, else 0."""
    return 1 if is_order(codes) else 0


def compare_rows(codes, first, second):
    """Answer 0 if the first row is before the second by the order, 1 if they have the same key, else 2."""
    if not is_order(codes) or not is_row(first) or not is_row(second):
        return WRONG_FORM
    first_key = key_of(codes, first)
    second_key = key_of(codes, second)
    if first_key == second_key:
        return 1
    return 0 if first_key < second_key else 2


def pack_row(codes, row):
    """Answer a list: bytes that compare as the order does, or the refusal alone."""
    if not is_order(codes) or not is_row(row):
        return [WRONG_FORM]
    packed = []
    for value in key_of(codes, row):
        # Only with the highest byte first do bytes compare as the numbers do.
        packed.extend(list(reversed(octets_of(value, FIELD_LENGTH))))
    return packed + [0] * (PACK_LENGTH - len(packed))


def unpack_row(codes, octets):
    """Answer a list: the row that has these bytes' fields, and 0 in the others; or the refusal alone."""
    if not is_order(codes) or not is_pack(octets):
        return [WRONG_FORM]
    row = [0] * FIELDS
    for position, code in enumerate(codes):
        start = position * FIELD_LENGTH
        value = value_of(list(reversed(octets[start:start + FIELD_LENGTH])))
        row[field_of(code)] = turned(code, value)
    return row
