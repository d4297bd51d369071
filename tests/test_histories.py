"""Long histories of all thirty calls: the package held against the model, and P1, P2 and P6 after every call."""

import unittest

from standtable.book import CALLS, answers
from standtable.reader import Reader
from standtable.table import Table
from tests.making import NAMES, Maker, written
from tests.model import Model, compare
from tests.writing import listed

# The refusals of each call, -20 for all that say which order bars.
REFUSALS = {
    "order": (-1, -3, -5, -9), "put": (-1, -3, -20, -9), "set": (-1, -4, -20, -9), "take": (-4, -9), "row": (-4,),
    "nth": (-2,), "rank": (-2, -4), "find": (-1, -2), "many": (-1, -2), "sum": (-1, -2), "cursor": (-1, -2, -3),
    "drop": (-4,), "go": (-4,), "seek": (-1, -4), "at": (-4,), "next": (-4,), "prev": (-4,), "walk": (-1, -2),
    "mark": (-3,), "back": (-4,), "keep": (-4,), "load": (-6,), "before": (-1,), "pack": (-1,), "unpack": (-1,),
}


def kind_of(name, told):
    return name, 0 if told[0] >= 0 else max(told[0], -20)


class Histories(unittest.TestCase):
    def history(self, seed):
        """A history's calls, and what the model answers."""
        model = Model()
        maker = Maker(seed, model)
        # A hundred calls fill no table, so some histories are longer than a list of calls may be.
        if seed >= 590:
            maker.weights.update(new=0, load=0, put=300)
        # Nor do they often reach the last change that marks allow.
        if seed >= 595:
            maker.weights.update(put=400, set=300, take=300, walk=100, back=0, keep=0)
            maker.whats = [0, 1, 2, 3, 5]
            maker.values = list(range(1000))
        # Without an order most calls are refused.
        calls = [("order", [seed % 2, maker.codes()])]
        wanted = [model.order(*calls[0][1])]
        for each in range(99 if seed < 590 else 900):
            name, args = maker.call()
            calls.append((name, args))
            wanted.append(getattr(model, name)(*args))
        return calls, wanted

    def test_the_model_answers_the_same(self):
        seen = set()
        for seed in range(600):
            calls, wanted = self.history(seed)
            seen.update(kind_of(name, told) for (name, args), told in zip(calls, wanted))
            told = answers([number for call in calls for number in written(*call)])
            self.assertEqual(told, [number for answer in wanted for number in listed(answer)], seed)
        for name in NAMES:
            for refusal in REFUSALS.get(name, ()) + (0,):
                self.assertIn((name, refusal), seen)
        self.assertEqual({name for name, refusal in seen if refusal < 0}, set(REFUSALS))

    def test_refused_calls_change_nothing(self):
        """Without the calls that were refused, the others are answered the same."""
        for seed in range(0, 600, 3):
            pairs = [(call, told) for call, told in zip(*self.history(seed)) if told[0] >= 0]
            given = [number for call, told in pairs for number in written(*call)]
            self.assertEqual(answers(given), [number for call, told in pairs for number in listed(told)], seed)

    def test_every_order_has_all_rows_by_their_places(self):
        """P1, and P2: no two rows of a unique order have the same key, after whatever call."""
        for seed in range(100):
            table = Table()
            for name, args in self.history(seed)[0]:
                CALLS[NAMES.index(name)](table, Reader(written(name, args)[1:]))
                self.check(table)

    def check(self, table):
        for order in table.orders:
            numbers = [order.number_at(at) for at in range(len(table.rows) + 1)]
            self.assertEqual(numbers.pop(), 0)
            self.assertEqual(sorted(numbers), sorted(table.rows))
            for m, n in zip(numbers, numbers[1:]):
                side = compare(order.codes, table.rows[m], table.rows[n])
                self.assertTrue(side < 0 or side == 0 and m < n)
                self.assertFalse(order.unique and side == 0)

    def test_what_is_saved_is_read_after_whatever_history(self):
        """P6, and that a table goes on from its bytes as from its calls, but for cursors and marks."""
        for seed in range(150):
            calls = [number for call in self.history(seed)[0] for number in written(*call)]
            octets = answers(calls + [24])
            octets = octets[-(len(octets) - len(answers(calls)) - 2):]
            told = answers([25] + listed(octets) + [24, 7])
            self.assertEqual(told[:-5], [1, 0, len(octets) + 1, len(octets)] + octets)
            self.assertEqual(told[-3:-1], [octets[0], 0])


if __name__ == "__main__":
    unittest.main()
