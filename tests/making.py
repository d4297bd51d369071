"""Makes histories of calls from a seed, most of them such that they aren't refused."""

import random

from tests.writing import HALF, TOP, listed

NAMES = ["new", "order", "put", "set", "take", "has", "row", "count", "nth", "rank", "find", "many", "sum", "cursor",
         "drop", "go", "seek", "at", "next", "prev", "walk", "mark", "back", "keep", "save", "load", "sound", "before",
         "pack", "unpack"]
WEIGHTS = dict(zip(NAMES, [1, 10, 60, 30, 15, 4, 4, 6, 10, 10, 10, 5, 5, 12, 4, 25, 20, 25, 50, 35, 30, 14, 10, 5, 8, 4,
                           3, 6, 4, 4]))
EDGES = [0, 1, 2, HALF - 1, HALF, HALF + 1, TOP - 1, TOP]


class Maker:
    """Makes calls as (name, arguments). It looks at a model, on which the calls are made one by one."""

    def __init__(self, seed, model):
        self.dice = random.Random(seed)
        self.model = model
        self.values = self.dice.choice([EDGES, EDGES[:2], EDGES[2:5], list(range(6)), list(range(40))])
        self.weights = dict(WEIGHTS)
        self.whats = [0, 0, 0, 1, 2, 2, 2, 3, 3, 4, 5]
        # The bytes that the model had at some times.
        self.kept = []
        if seed % 3 == 0:
            self.weights["new"] = self.weights["load"] = 0
        if seed % 7 == 0:
            self.weights["new"] = self.weights["load"] = 0
            self.weights["cursor"] = 100
        if seed % 11 == 0:
            self.weights["mark"] = 80

    def fields(self):
        length = 4 if self.dice.random() < 0.97 else self.dice.randrange(9)
        return [self.dice.choice(self.values) for each in range(length)]

    def codes(self):
        if self.dice.random() < 0.1:
            return [self.dice.choice([0, 1, 2, 5, 16, 17, 255]) for each in range(self.dice.randrange(9))]
        chosen = self.dice.sample(range(4), self.dice.randint(1, 4))
        return [1 + f + 4 * self.dice.randrange(4) for f in chosen]

    def flag(self):
        return self.dice.choice([0] * 8 + [1] * 8 + [2])

    def order_number(self):
        there = len(self.model.orders)
        return self.dice.randrange(there) if there and self.dice.random() < 0.95 else self.dice.randrange(8)

    def cursor_number(self):
        there = sorted(self.model.cursors)
        return self.dice.choice(there) if there and self.dice.random() < 0.95 else self.dice.randrange(18)

    def row_number(self):
        there = sorted(self.model.rows)
        if there and self.dice.random() < 0.9:
            return self.dice.choice(there)
        return self.dice.choice([0, self.model.number, 4294967295, self.dice.randrange(60)])

    def small(self):
        return self.dice.randrange(4) if self.dice.random() < 0.95 else self.dice.randrange(4, 7)

    def position(self):
        return self.dice.randrange(len(self.model.rows) + 2)

    def most(self):
        return self.dice.choice([0, 1, 2, 5, 20, 20, 20, 100, 1000, 1001])

    def deeds(self):
        out = []
        for each in range(self.dice.choice([0, 1, 3, 10, 20, 30])):
            what = self.dice.choice(self.whats if self.dice.random() < 0.4 else [0, 1, 2, 2, 3])
            out += [what, self.dice.randrange(4), self.dice.choice(self.values)]
        if self.dice.random() < 0.05:
            out += self.dice.choice([[0], [1, 1], [6, 0, 0], [0, 4, 0]])
        return out

    def octets(self):
        """A table's bytes, or such with something wrong."""
        self.kept.append(self.model.save()[1:])
        out = list(self.dice.choice(self.kept))
        chance = self.dice.random()
        if chance < 0.3:
            # A next number far on, so that a history sees that none is left.
            at = 5 + 5 * out[0]
            out[at:at + 4] = list((2 ** 31 - self.dice.randrange(3)).to_bytes(4, "little"))
        elif chance < 0.6:
            at = self.dice.randrange(len(out))
            out[at] = self.dice.choice([0, 1, 2, 16, 17, 127, 128, 255, out[at] ^ 1])
        elif chance < 0.65:
            out = out[:self.dice.randrange(len(out))]
        elif chance < 0.7:
            out.append(0)
        return out

    def packed(self):
        length = 32 if self.dice.random() < 0.9 else self.dice.choice([0, 31, 33])
        return [self.dice.choice([0, 1, 127, 128, 254, 255]) for each in range(length)]

    def call(self):
        names = list(self.weights)
        name = self.dice.choices(names, [self.weights[each] for each in names])[0]
        k, n, c = self.order_number(), self.row_number(), self.cursor_number()
        makers = {
            "order": lambda: [self.flag(), self.codes()],
            "put": lambda: [self.fields()],
            "set": lambda: [n, self.fields()],
            "take": lambda: [n],
            "has": lambda: [n],
            "row": lambda: [n],
            "nth": lambda: [k, self.position()],
            "rank": lambda: [k, n],
            "find": lambda: [k, self.small(), self.fields()],
            "many": lambda: [k, self.fields(), self.fields()],
            "sum": lambda: [k, self.small(), self.fields(), self.fields()],
            "cursor": lambda: [k, self.flag()],
            "drop": lambda: [c],
            "go": lambda: [c, n],
            "seek": lambda: [c, self.flag(), self.fields()],
            "at": lambda: [c],
            "next": lambda: [c],
            "prev": lambda: [c],
            "walk": lambda: [k, self.most(), self.fields(), self.fields(), self.deeds()],
            "load": lambda: [self.octets()],
            "sound": lambda: [self.codes()],
            "before": lambda: [self.codes(), self.fields(), self.fields()],
            "pack": lambda: [self.codes(), self.fields()],
            "unpack": lambda: [self.codes(), self.packed()],
        }
        return name, makers[name]() if name in makers else []


def written(name, args):
    out = [NAMES.index(name)]
    for arg in args:
        out += listed(arg) if isinstance(arg, list) else [arg]
    return out
