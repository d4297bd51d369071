"""A plain model of the table, written from the document alone: it keeps no order, and sorts and counts anew each time.

It shares no code with the package, so that the two can be held against each other.
"""

import functools


def sound_row(fields):
    return len(fields) == 4 and all(0 <= value <= 2 ** 64 - 1 for value in fields)


def parts(code):
    bits = code - 1
    return bits & 3, bits >> 2 & 1, bits >> 3 & 1


def sound_order(codes):
    if len(codes) not in (1, 2, 3, 4) or min(codes) < 1 or max(codes) > 16:
        return False
    fields = [parts(code)[0] for code in codes]
    return all(fields.count(f) == 1 for f in fields)


def compare(codes, a, b):
    """Below 0 if a is before b, 0 if they've the same key, above 0 if b is before a."""
    for code in codes:
        f, down, sign = parts(code)
        x, y = a[f], b[f]
        if sign:
            x, y = x ^ 1 << 63, y ^ 1 << 63
        if x != y:
            return 1 if (x > y) != bool(down) else -1
    return 0


class Model:
    def __init__(self):
        self.new()

    def new(self):
        self.rows, self.number, self.orders, self.cursors = {}, 1, [], set()
        return [0]

    def standing(self, k):
        codes = self.orders[k][1]

        def by_place(m, n):
            return compare(codes, self.rows[m], self.rows[n]) or m - n

        return sorted(self.rows, key=functools.cmp_to_key(by_place))

    def barred(self, fields, but):
        for k, (unique, codes) in enumerate(self.orders):
            if unique and any(compare(codes, fields, self.rows[n]) == 0 for n in self.rows if n != but):
                return [-20 - k]
        return None

    def order(self, unique, codes):
        if unique > 1 or not sound_order(codes):
            return [-1]
        if len(self.orders) == 6:
            return [-3]
        pairs = [(m, n) for m in self.rows for n in self.rows if m < n]
        if unique and any(compare(codes, self.rows[m], self.rows[n]) == 0 for m, n in pairs):
            return [-5]
        self.orders.append((unique, codes))
        return [len(self.orders) - 1]

    def put(self, fields):
        if not sound_row(fields):
            return [-1]
        if len(self.rows) == 256:
            return [-3]
        barred = self.barred(fields, None)
        if barred:
            return barred
        self.rows[self.number] = fields
        self.number += 1
        return [self.number - 1]

    def set(self, n, fields):
        if not sound_row(fields):
            return [-1]
        if n not in self.rows:
            return [-4]
        barred = self.barred(fields, n)
        if barred:
            return barred
        self.rows[n] = fields
        return [0]

    def take(self, n):
        return [-4] if self.rows.pop(n, None) is None else [0]

    def has(self, n):
        return [int(n in self.rows)]

    def row(self, n):
        return list(self.rows.get(n, [-4]))

    def count(self):
        return [len(self.rows), len(self.orders), 0, self.number]

    def nth(self, k, j):
        if k >= len(self.orders):
            return [-2]
        return (self.standing(k)[j:j + 1] or [0])

    def rank(self, k, n):
        if k >= len(self.orders):
            return [-2]
        return [self.standing(k).index(n)] if n in self.rows else [-4]

    def find(self, k, how, key):
        if how > 3 or not sound_row(key):
            return [-1]
        if k >= len(self.orders):
            return [-2]
        codes = self.orders[k][1]
        sides = [(n, compare(codes, self.rows[n], key)) for n in self.standing(k)]
        if how == 0:
            return ([n for n, side in sides if side >= 0] or [0])[:1]
        if how == 1:
            return ([n for n, side in sides if side > 0] or [0])[:1]
        if how == 2:
            return ([n for n, side in sides if side < 0] or [0])[-1:]
        return ([n for n, side in sides if side <= 0] or [0])[-1:]

    def stretch(self, k, a, b):
        codes = self.orders[k][1]
        return [n for n in self.rows if compare(codes, self.rows[n], a) >= 0 and compare(codes, self.rows[n], b) < 0]

    def many(self, k, a, b):
        if not (sound_row(a) and sound_row(b)):
            return [-1]
        return [-2] if k >= len(self.orders) else [len(self.stretch(k, a, b))]

    def sum(self, k, f, a, b):
        if f > 3 or not (sound_row(a) and sound_row(b)):
            return [-1]
        return [-2] if k >= len(self.orders) else [sum(self.rows[n][f] for n in self.stretch(k, a, b))]

    def cursor(self, k, follows):
        if follows > 1:
            return [-1]
        if k >= len(self.orders):
            return [-2]
        free = [c for c in range(16) if c not in self.cursors]
        if not free:
            return [-3]
        self.cursors.add(free[0])
        return free[:1]

    def drop(self, c):
        if c not in self.cursors:
            return [-4]
        self.cursors.discard(c)
        return [0]
