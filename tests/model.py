"""A plain model of the table, written from the document alone: it keeps no order, and sorts and counts anew each time.

It shares no code with the package, so that the two can be held against each other.
"""

import functools
import struct


def sound_row(fields):
    return len(fields) == 4 and all(0 <= value <= 2 ** 64 - 1 for value in fields)


def parts(code):
    bits = code - 1
    return bits & 3, bits >> 2 & 1, bits >> 3 & 1


def sound_order(codes):
    if len(codes) not in (1, 2, 3, 4) or min(codes) < 1 or max(codes) > 16:
        return False
    fields = [parts(code)[0] for code in codes]
    return all(fields.count(f) == 1 for f in fields)


def compare(codes, a, b):
    """Below 0 if a is before b, 0 if they've the same key, above 0 if b is before a."""
    for code in codes:
        f, down, sign = parts(code)
        x, y = a[f], b[f]
        if sign:
            x, y = x ^ 1 << 63, y ^ 1 << 63
        if x != y:
            return 1 if (x > y) != bool(down) else -1
    return 0


BEFORE, BEHIND = "before all", "behind all"


class Standing:
    """A cursor; its place is BEFORE, BEHIND, or four fields and a number."""

    def __init__(self, k, follows):
        self.k, self.follows, self.place = k, follows, BEFORE


class NoTable(Exception):
    pass


def must(right):
    if not right:
        raise NoTable


def parsed(octets):
    """The orders, rows and next number that bytes tell; NoTable or struct.error if they're no table's."""
    must(octets and octets[0] <= 6)
    at, orders, rows = 1, [], {}
    for each in range(octets[0]):
        codes, unique = struct.unpack_from("4sB", octets, at)
        must(unique in (0, 1) and sound_order(list(codes.rstrip(b"\0"))))
        orders.append((unique, list(codes.rstrip(b"\0"))))
        at += 5
    length, number = struct.unpack_from("<II", octets, at)
    must(length <= 256 and 1 <= number <= 2 ** 31 and len(octets) == at + 8 + 36 * length)
    for each in range(length):
        n, *fields = struct.unpack_from("<I4Q", octets, at + 8 + 36 * each)
        must(max(rows, default=0) < n < number)
        for unique, codes in orders:
            must(not unique or all(compare(codes, fields, rows[m]) for m in rows))
        rows[n] = fields
    return orders, rows, number


class Model:
    def __init__(self):
        self.new()

    def new(self):
        self.rows, self.number, self.orders, self.cursors = {}, 1, [], {}
        # Of each mark the rows, the next number, and how long the log of changes was.
        self.marks, self.log = [], []
        return [0]

    def standing(self, k):
        codes = self.orders[k][1]

        def by_place(m, n):
            return compare(codes, self.rows[m], self.rows[n]) or m - n

        return sorted(self.rows, key=functools.cmp_to_key(by_place))

    def barred(self, fields, but):
        for k, (unique, codes) in enumerate(self.orders):
            if unique and any(compare(codes, fields, self.rows[n]) == 0 for n in self.rows if n != but):
                return [-20 - k]
        return None

    def changed(self, what):
        """Log a change that nothing else bars; the refusal if there are too many."""
        if not self.marks:
            return None
        if len(self.log) - self.marks[0][2] == 512:
            return [-9]
        self.log.append(what)
        return None

    def order(self, unique, codes):
        if unique > 1 or not sound_order(codes):
            return [-1]
        if len(self.orders) == 6:
            return [-3]
        pairs = [(m, n) for m in self.rows for n in self.rows if m < n]
        if unique and any(compare(codes, self.rows[m], self.rows[n]) == 0 for m, n in pairs):
            return [-5]
        if self.marks:
            return [-9]
        self.orders.append((unique, codes))
        return [len(self.orders) - 1]

    def put(self, fields):
        if not sound_row(fields):
            return [-1]
        if len(self.rows) == 256 or self.number == 2 ** 31:
            return [-3]
        barred = self.barred(fields, None) or self.changed("put")
        if barred:
            return barred
        self.rows[self.number] = fields
        self.number += 1
        return [self.number - 1]

    def set(self, n, fields):
        if not sound_row(fields):
            return [-1]
        if n not in self.rows:
            return [-4]
        barred = self.barred(fields, n) or self.changed("set")
        if barred:
            return barred
        followers = [c for c in self.cursors if self.cursors[c].follows and self.at(c) == [n]]
        self.rows[n] = fields
        for c in followers:
            self.cursors[c].place = (fields, n)
        return [0]

    def take(self, n):
        if n not in self.rows:
            return [-4]
        barred = self.changed("take")
        if barred:
            return barred
        del self.rows[n]
        return [0]

    def has(self, n):
        return [int(n in self.rows)]

    def row(self, n):
        return list(self.rows.get(n, [-4]))

    def count(self):
        return [len(self.rows), len(self.orders), len(self.marks), self.number]

    def nth(self, k, j):
        if k >= len(self.orders):
            return [-2]
        return (self.standing(k)[j:j + 1] or [0])

    def rank(self, k, n):
        if k >= len(self.orders):
            return [-2]
        return [self.standing(k).index(n)] if n in self.rows else [-4]

    def find(self, k, how, key):
        if how > 3 or not sound_row(key):
            return [-1]
        if k >= len(self.orders):
            return [-2]
        codes = self.orders[k][1]
        sides = [(n, compare(codes, self.rows[n], key)) for n in self.standing(k)]
        if how == 0:
            return ([n for n, side in sides if side >= 0] or [0])[:1]
        if how == 1:
            return ([n for n, side in sides if side > 0] or [0])[:1]
        if how == 2:
            return ([n for n, side in sides if side < 0] or [0])[-1:]
        return ([n for n, side in sides if side <= 0] or [0])[-1:]

    def stretch(self, k, a, b):
        codes = self.orders[k][1]
        return [n for n in self.rows if compare(codes, self.rows[n], a) >= 0 and compare(codes, self.rows[n], b) < 0]

    def many(self, k, a, b):
        if not (sound_row(a) and sound_row(b)):
            return [-1]
        return [-2] if k >= len(self.orders) else [len(self.stretch(k, a, b))]

    def sum(self, k, f, a, b):
        if f > 3 or not (sound_row(a) and sound_row(b)):
            return [-1]
        return [-2] if k >= len(self.orders) else [sum(self.rows[n][f] for n in self.stretch(k, a, b))]

    def cursor(self, k, follows):
        if follows > 1:
            return [-1]
        if k >= len(self.orders):
            return [-2]
        free = [c for c in range(16) if c not in self.cursors]
        if not free:
            return [-3]
        self.cursors[free[0]] = Standing(k, follows)
        return free[:1]

    def drop(self, c):
        return [-4] if self.cursors.pop(c, None) is None else [0]

    def go(self, c, n):
        if c not in self.cursors or n not in self.rows:
            return [-4]
        self.cursors[c].place = (self.rows[n], n)
        return [0]

    def seek(self, c, behind, key):
        if behind > 1 or not sound_row(key):
            return [-1]
        if c not in self.cursors:
            return [-4]
        self.cursors[c].place = (key, 4294967295 * behind)
        return [0]

    def at(self, c):
        if c not in self.cursors:
            return [-4]
        standing = self.cursors[c]
        if standing.place in (BEFORE, BEHIND):
            return [0]
        fields, n = standing.place
        there = n in self.rows and compare(self.orders[standing.k][1], self.rows[n], fields) == 0
        return [n if there else 0]

    def sides(self, k, place):
        """The rows whose places are before a place, and those whose places are behind it, as they stand."""
        rows = self.standing(k)
        if place in (BEFORE, BEHIND):
            return ([], rows) if place == BEFORE else (rows, [])
        fields, number = place
        codes = self.orders[k][1]
        side = {n: compare(codes, self.rows[n], fields) or n - number for n in rows}
        return [n for n in rows if side[n] < 0], [n for n in rows if side[n] > 0]

    def next(self, c):
        if c not in self.cursors:
            return [-4]
        standing = self.cursors[c]
        ahead = self.sides(standing.k, standing.place)[1]
        standing.place = (self.rows[ahead[0]], ahead[0]) if ahead else BEHIND
        return ahead[:1] or [0]

    def prev(self, c):
        if c not in self.cursors:
            return [-4]
        standing = self.cursors[c]
        ahead = self.sides(standing.k, standing.place)[0]
        standing.place = (self.rows[ahead[-1]], ahead[-1]) if ahead else BEFORE
        return ahead[-1:] or [0]

    def walk(self, k, most, a, b, deeds):
        threes = [deeds[at:at + 3] for at in range(0, len(deeds), 3)]
        if most > 1000 or not (sound_row(a) and sound_row(b)) or any(len(three) < 3 for three in threes):
            return [-1]
        if any(what > 5 or f > 3 for what, f, x in threes):
            return [-1]
        if k >= len(self.orders):
            return [-2]
        told, place = [], (a, 0)
        while len(told) < most:
            ahead = self.sides(k, place)[1][:1]
            if not ahead or compare(self.orders[k][1], self.rows[ahead[0]], b) >= 0:
                break
            n = ahead[0]
            place = (self.rows[n], n)
            told.append(n)
            what, f, x = threes.pop(0) if threes else (0, 0, 0)
            like = self.rows[n][:f] + [x] + self.rows[n][f + 1:]
            deed = {1: lambda: self.take(n), 2: lambda: self.set(n, like), 3: lambda: self.put(like), 4: self.back}
            if what == 5:
                break
            deed.get(what, list)()
        return [len(told)] + told

    def mark(self):
        if len(self.marks) == 8:
            return [-3]
        self.marks.append((dict(self.rows), self.number, len(self.log)))
        return [len(self.marks)]

    def back(self):
        if not self.marks:
            return [-4]
        self.rows, self.number, length = self.marks.pop()
        del self.log[length:]
        return [len(self.marks)]

    def keep(self):
        if not self.marks:
            return [-4]
        self.marks.pop()
        return [len(self.marks)]

    def save(self):
        out = bytes([len(self.orders)])
        for unique, codes in self.orders:
            out += bytes(codes).ljust(4, b"\0") + bytes([unique])
        out += struct.pack("<II", len(self.rows), self.number)
        for n in sorted(self.rows):
            out += struct.pack("<I4Q", n, *self.rows[n])
        return [len(out)] + list(out)

    def load(self, octets):
        try:
            loaded = parsed(bytes(octets))
        except (NoTable, struct.error):
            return [-6]
        self.new()
        self.orders, self.rows, self.number = loaded
        return [0]

    def sound(self, codes):
        return [int(sound_order(codes))]

    def before(self, codes, a, b):
        if not (sound_order(codes) and sound_row(a) and sound_row(b)):
            return [-1]
        side = compare(codes, a, b)
        return [0 if side < 0 else 1 if side == 0 else 2]

    def pack(self, codes, fields):
        if not (sound_order(codes) and sound_row(fields)):
            return [-1]
        out = b""
        for code in codes:
            f, down, sign = parts(code)
            eight = bytearray(struct.pack(">Q", fields[f]))
            if sign:
                eight[0] ^= 128
            out += bytes(255 - octet for octet in eight) if down else bytes(eight)
        return list(out.ljust(32, b"\0"))

    def unpack(self, codes, octets):
        if not sound_order(codes) or len(octets) != 32:
            return [-1]
        out = [0, 0, 0, 0]
        for at, code in enumerate(codes):
            f, down, sign = parts(code)
            eight = octets[8 * at:8 * at + 8]
            if down:
                eight = [255 - octet for octet in eight]
            value = int.from_bytes(bytes(eight), "big")
            out[f] = (value + 2 ** 63) % 2 ** 64 if sign else value
        return out
