"""What a row and an order's codes are, and the key that a row has in an order."""

FIELDS = 4
LAST_CODE = 16
ALL_BITS = 18446744073709551615
SIGN_BIT = 9223372036854775808


def is_row(numbers):
    """Tell if these numbers are a row's fields."""
    if len(numbers) != FIELDS:
        return False
    return all([0 <= number <= ALL_BITS for number in numbers])


def is_order(codes):
    """Tell if these numbers are an order's codes."""
    if len(codes) < 1 or len(codes) > FIELDS:
        return False
    if not all([1 <= code <= LAST_CODE for code in codes]):
        return False
    return len(set([field_of(code) for code in codes])) == len(codes)


def field_of(code):
    """The field that a code of an order counts by."""
    return (code - 1) % 4


def goes_down(code):
    """Tell if a code counts from the greatest down."""
    return (code - 1) // 4 % 2 == 1


def has_sign(code):
    """Tell if a code takes its field as a number with a sign."""
    return (code - 1) // 8 == 1


def turned(code, value):
    """A field's value with bits turned so that it is the lesser the earlier it comes by this code.

    Turned once more by the same code, it is the field's value again.
    """
    if has_sign(code):
        value = value ^ SIGN_BIT
    if goes_down(code):
        value = value ^ ALL_BITS
    return value


def key_of(codes, row):
    """A row's key: keys compare as tuples the way the order compares their rows."""
    return tuple([turned(code, row[field_of(code)]) for code in codes])
