"""Writes calls in the form that answers takes, and reads what it answers call by call."""

from standtable.book import answers

TOP = 2 ** 64 - 1
HALF = 2 ** 63


def listed(numbers):
    return [len(numbers)] + list(numbers)


def new():
    return [0]


def order(unique, *codes):
    return [1, unique] + listed(codes)


def put(*fields):
    return [2] + listed(fields)


def set_(n, *fields):
    return [3, n] + listed(fields)


def take(n):
    return [4, n]


def has(n):
    return [5, n]


def row(n):
    return [6, n]


def count():
    return [7]


def nth(k, j):
    return [8, k, j]


def rank(k, n):
    return [9, k, n]


def find(k, how, key):
    return [10, k, how] + listed(key)


def many(k, a, b):
    return [11, k] + listed(a) + listed(b)


def sum_(k, f, a, b):
    return [12, k, f] + listed(a) + listed(b)


def cursor(k, follows):
    return [13, k, follows]


def drop(c):
    return [14, c]


def go(c, n):
    return [15, c, n]


def seek(c, behind, key):
    return [16, c, behind] + listed(key)


def at(c):
    return [17, c]


def next_(c):
    return [18, c]


def prev(c):
    return [19, c]


def walk(k, most, a, b, *deeds):
    """A walk with its deeds as threes: (what, f, x)."""
    return walk_of(k, most, a, b, joined(deeds))


def walk_of(k, most, a, b, numbers):
    """A walk with its deeds as they're written, be they deeds or not."""
    return [20, k, most] + listed(a) + listed(b) + listed(numbers)


def mark():
    return [21]


def back():
    return [22]


def keep():
    return [23]


def save():
    return [24]


def load(octets):
    return [25] + listed(octets)


def sound(*codes):
    return [26] + listed(codes)


def before(codes, a, b):
    return [27] + listed(codes) + listed(a) + listed(b)


def pack(codes, fields):
    return [28] + listed(codes) + listed(fields)


def unpack(codes, octets):
    return [29] + listed(codes) + listed(octets)


def low_first(value, length):
    return list(value.to_bytes(length, "little"))


def saved_row(number, fields):
    return low_first(number, 4) + joined(low_first(value, 8) for value in fields)


def saved(orders, rows, number):
    """A table's bytes: orders as (unique, codes), rows as (number, fields), and the next number."""
    out = [len(orders)]
    for unique, codes in orders:
        out += (list(codes) + [0, 0, 0])[:4] + [unique]
    out += low_first(len(rows), 4) + low_first(number, 4)
    return out + joined(saved_row(n, fields) for n, fields in rows)


def joined(calls):
    return [number for call in calls for number in call]


def parted(told):
    """The answers one by one: a number alone as it is, several as a list."""
    out = []
    at = 0
    while at < len(told):
        length = told[at]
        part = told[at + 1:at + 1 + length]
        if length < 1 or len(part) != length:
            raise AssertionError("counts don't fit: %r" % (told,))
        out.append(part[0] if length == 1 else part)
        at += 1 + length
    return out


def ask(*calls):
    """What each of these calls is answered, in order."""
    out = parted(answers(joined(calls)))
    if len(out) != len(calls):
        raise AssertionError("%d calls, %d answers" % (len(calls), len(out)))
    return out


def last(*calls):
    """What the last of these calls is answered."""
    return ask(*calls)[-1]


def in_order(rows, *codes):
    """The numbers of these rows, put in turn, as they stand in an order of these codes."""
    calls = [order(0, *codes)] + [put(*fields) for fields in rows]
    asked = [nth(0, j) for j in range(len(rows) + 1)]
    out = ask(*(calls + asked))[len(calls):]
    if out[-1] != 0:
        raise AssertionError("more rows than were put: %r" % (out,))
    return out[:-1]
