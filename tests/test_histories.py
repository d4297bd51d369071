"""Long histories of calls, the package held against the model, and P1 and P2 after every call."""

import random
import unittest

from standtable.book import CALLS, answers
from standtable.reader import Reader
from standtable.table import Table
from tests.model import Model, compare
from tests.writing import HALF, TOP, listed

NAMES = ["new", "order", "put", "set", "take", "has", "row", "count", "nth", "rank", "find", "many", "sum", "cursor",
         "drop"]
EDGES = [0, 1, 2, HALF - 1, HALF, HALF + 1, TOP - 1, TOP]


class Maker:
    """Makes calls from a seed: (name, arguments), most of them such that they aren't refused."""

    def __init__(self, seed):
        self.dice = random.Random(seed)
        self.values = self.dice.choice([EDGES, EDGES[:2], EDGES[2:5], list(range(6))])
        self.weights = [1, 8, 60, 25, 15, 5, 5, 5, 25, 20, 30, 15, 15, 8, 5]
        if seed % 3 == 0:
            self.weights[0] = 0
        if seed % 7 == 0:
            self.weights[0] = 0
            self.weights[NAMES.index("cursor")] = 200

    def fields(self):
        length = 4 if self.dice.random() < 0.96 else self.dice.randrange(9)
        return [self.dice.choice(self.values) for each in range(length)]

    def codes(self):
        if self.dice.random() < 0.1:
            return [self.dice.choice([0, 1, 2, 5, 16, 17, 255]) for each in range(self.dice.randrange(9))]
        chosen = self.dice.sample(range(4), self.dice.randint(1, 4))
        return [1 + f + 4 * self.dice.randrange(4) for f in chosen]

    def flag(self):
        return self.dice.choice([0, 0, 0, 1, 1, 1, 2])

    def small(self, end):
        return self.dice.choice([self.dice.randrange(end), self.dice.randrange(end), self.dice.randrange(3)])

    def call(self):
        name = self.dice.choices(NAMES, self.weights)[0]
        k, n = self.small(7), self.small(60)
        makers = {
            "order": lambda: [self.flag(), self.codes()],
            "put": lambda: [self.fields()],
            "set": lambda: [n, self.fields()],
            "take": lambda: [n],
            "has": lambda: [n],
            "row": lambda: [n],
            "nth": lambda: [k, n],
            "rank": lambda: [k, n],
            "find": lambda: [k, self.small(5), self.fields()],
            "many": lambda: [k, self.fields(), self.fields()],
            "sum": lambda: [k, self.small(5), self.fields(), self.fields()],
            "cursor": lambda: [k, self.flag()],
            "drop": lambda: [self.small(18)],
        }
        return name, makers[name]() if name in makers else []


def written(name, args):
    out = [NAMES.index(name)]
    for arg in args:
        out += listed(arg) if isinstance(arg, list) else [arg]
    return out


class Histories(unittest.TestCase):
    def test_the_model_answers_the_same(self):
        seen = set()
        for seed in range(400):
            maker = Maker(seed)
            # A hundred calls fill no table, so some histories are longer than a list of calls may be.
            if seed >= 390:
                maker.weights[0] = 0
                maker.weights[NAMES.index("put")] = 300
            calls = [maker.call() for each in range(100 if seed < 390 else 600)]
            model = Model()
            wanted = [getattr(model, name)(*args) for name, args in calls]
            seen.update((name, min(told[0], 0)) for (name, args), told in zip(calls, wanted))
            given = [number for call in calls for number in written(*call)]
            self.assertEqual(answers(given), [number for told in wanted for number in listed(told)], seed)
        for name, refusals in {"order": (-1, -3, -5), "put": (-1, -3, -20, -22), "set": (-1, -4, -20, -21),
                               "rank": (-2, -4), "cursor": (-1, -2, -3), "drop": (-4,), "find": (-1, -2)}.items():
            for refusal in refusals + (0,):
                self.assertIn((name, refusal), seen)

    def test_every_order_has_all_rows_by_their_places(self):
        """P1, and P2: no two rows of a unique order have the same key, after whatever call."""
        for seed in range(60):
            maker = Maker(seed)
            table = Table()
            for each in range(100):
                name, args = maker.call()
                CALLS[NAMES.index(name)](table, Reader(written(name, args)[1:]))
                self.check(table)

    def check(self, table):
        for order in table.orders:
            numbers = [order.number_at(at) for at in range(len(table.rows) + 1)]
            self.assertEqual(numbers.pop(), 0)
            self.assertEqual(sorted(numbers), sorted(table.rows))
            for m, n in zip(numbers, numbers[1:]):
                side = compare(order.codes, table.rows[m], table.rows[n])
                self.assertTrue(side < 0 or side == 0 and m < n)
                self.assertFalse(order.unique and side == 0)


if __name__ == "__main__":
    unittest.main()
