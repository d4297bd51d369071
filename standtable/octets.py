"""Whole numbers written in bytes, the lowest first."""

# How many bytes a row's field takes.
FIELD_LENGTH = 8


def octets_of(value, length):
    """A number in so many bytes."""
    return [value >> 8 * position & 255 for position in range(length)]


def value_of(octets):
    """The number that these bytes tell."""
    value = 0
    for octet in reversed(octets):
        value = value * 256 + octet
    return value
