"""Marks: what they keep, what back gives again, and how many changes may stand since the first."""

import unittest

from tests.making import Maker, written
from tests.model import Model
from tests.writing import (ask, back, count, cursor, has, joined, keep, load, mark, new, nth, order, put, row, save,
                           saved, set_, take, walk)

LOW = [0, 0, 0, 0]
HIGH = [2 ** 64 - 1, 0, 0, 0]


def sets(how_many):
    """One call that sets row 1 so many times, from field 0 at 0 on; it tells row 1 once more than that."""
    return walk(0, 1000, LOW, HIGH, *[[2, 0, value] for value in range(1, how_many + 1)])


# Order 0 by field 0, not unique, and row 1 with all fields 0.
ONE = [order(0, 1), put(0, 0, 0, 0)]


def one(*asked):
    return ask(*ONE, *asked)[2:]


class Counts(unittest.TestCase):
    def test_mark_back_and_keep_answer_how_many_stand(self):
        told = ask(mark(), mark(), mark(), keep(), back(), mark(), count(), back(), keep(), count())
        self.assertEqual(told, [1, 2, 3, 2, 1, 2, [0, 0, 2, 1], 1, 0, [0, 0, 0, 1]])

    def test_eight_and_nine(self):
        told = ask(*[mark()] * 8, mark(), count(), keep(), mark(), mark(), back(), mark(), count())
        self.assertEqual(told, list(range(1, 9)) + [-3, [0, 0, 8, 1], 7, 8, -3, 7, 8, [0, 0, 8, 1]])

    def test_the_ninth_mark_changes_nothing(self):
        told = ask(*[mark()] * 8, put(*LOW), mark(), back(), count())
        self.assertEqual(told[8:], [1, -3, 7, [0, 0, 7, 1]])

    def test_back_and_keep_without_a_mark(self):
        self.assertEqual(one(back(), keep(), row(1), mark(), keep(), back(), keep(), mark(), back(), keep(), count()),
                         [-4, -4, LOW, 1, 0, -4, -4, 1, 0, -4, [1, 1, 0, 2]])

    def test_new_and_load_leave_no_marks(self):
        self.assertEqual(one(mark(), mark(), new(), count(), back(), keep()), [1, 2, 0, [0, 0, 0, 1], -4, -4])
        self.assertEqual(one(mark(), mark(), load(saved([], [], 5)), count(), back(), keep()),
                         [1, 2, 0, [0, 0, 0, 5], -4, -4])


class Back(unittest.TestCase):
    def test_after_put(self):
        self.assertEqual(one(mark(), put(1, 1, 1, 1), put(2, 2, 2, 2), back(), count(), has(2), nth(0, 0), nth(0, 1),
                             put(3, 3, 3, 3)), [1, 2, 3, 0, [1, 1, 0, 2], 0, 1, 0, 2])

    def test_after_set(self):
        self.assertEqual(one(put(5, 0, 0, 0), mark(), set_(1, 9, 8, 7, 6), nth(0, 0), back(), row(1), nth(0, 0)),
                         [2, 1, 0, 2, 0, LOW, 1])

    def test_after_take(self):
        self.assertEqual(one(mark(), take(1), count(), back(), row(1), nth(0, 0), nth(0, 1), count()),
                         [1, 0, [0, 1, 1, 2], 0, LOW, 1, 0, [1, 1, 0, 2]])

    def test_without_changes(self):
        self.assertEqual(one(mark(), back(), row(1), count()), [1, 0, LOW, [1, 1, 0, 2]])

    def test_after_all_together(self):
        told = one(put(1, 0, 0, 0), put(2, 0, 0, 0), save(), mark(), take(2), set_(1, 9, 9, 9, 9), put(3, 3, 3, 3),
                   set_(4, 5, 5, 5, 5), take(3), put(6, 6, 6, 6), take(5), back(), save(), nth(0, 0), nth(0, 1),
                   nth(0, 2), nth(0, 3))
        self.assertEqual(told[12], told[2])
        self.assertEqual(told[13:], [1, 2, 3, 0])

    def test_what_back_gave_can_change_and_be_given_again(self):
        told = one(mark(), mark(), set_(1, 1, 0, 0, 0), back(), set_(1, 2, 0, 0, 0), mark(), take(1), back(), row(1),
                   back(), row(1))
        self.assertEqual(told, [1, 2, 0, 1, 0, 2, 0, 1, [2, 0, 0, 0], 0, LOW])

    def test_unique_orders_stay_unique(self):
        told = ask(order(1, 1), put(1, 0, 0, 0), mark(), take(1), put(1, 5, 5, 5), back(), put(1, 0, 0, 0),
                   put(2, 0, 0, 0))
        self.assertEqual(told, [0, 1, 1, 0, 2, 0, -20, 2])

    def test_orders_and_cursors_are_not_kept(self):
        told = ask(order(0, 1), mark(), cursor(0, 0), cursor(0, 0), back(), cursor(0, 0), count())
        self.assertEqual(told, [0, 1, 0, 1, 0, 2, [0, 1, 0, 1]])

    def test_of_a_full_table(self):
        full = saved([(1, [1])], [(n, [n, 0, 0, 0]) for n in range(1, 257)], 2 ** 31 - 1)
        told = ask(load(full), mark(), put(999, 0, 0, 0), take(5), put(5, 1, 1, 1), put(5, 0, 0, 0), take(6),
                   put(6, 0, 0, 0), back(), save())
        self.assertEqual(told, [0, 1, -3, 0, 2 ** 31 - 1, -3, 0, -3, 0, [len(full)] + full])


class Nested(unittest.TestCase):
    def test_back_and_back(self):
        told = one(mark(), put(1, 0, 0, 0), mark(), put(2, 0, 0, 0), take(1), mark(), set_(3, 9, 0, 0, 0), back(),
                   row(3), back(), count(), row(1), has(2), back(), count(), has(2))
        self.assertEqual(told, [1, 2, 2, 3, 0, 3, 0, 2, [2, 0, 0, 0], 1, [2, 1, 1, 3], LOW, 1, 0, [1, 1, 0, 2], 0])

    def test_keep_and_back(self):
        told = one(mark(), put(1, 0, 0, 0), mark(), put(2, 0, 0, 0), keep(), has(3), back(), count())
        self.assertEqual(told, [1, 2, 2, 3, 1, 1, 0, [1, 1, 0, 2]])

    def test_back_and_keep(self):
        told = one(mark(), put(1, 0, 0, 0), mark(), put(2, 0, 0, 0), back(), has(3), keep(), count())
        self.assertEqual(told, [1, 2, 2, 3, 1, 0, 0, [2, 1, 0, 3]])

    def test_keep_of_the_last_mark(self):
        told = one(mark(), put(1, 0, 0, 0), take(1), keep(), count(), back(), has(1), has(2))
        self.assertEqual(told, [1, 2, 0, 0, [1, 1, 0, 3], -4, 0, 1])

    def test_eight_deep(self):
        calls = joined([[mark(), put(n, 0, 0, 0)] for n in range(8)])
        told = one(*calls, *joined([[back(), count()] for n in range(8)]))
        self.assertEqual(told[16:], joined([[n, [n + 1, 1, n, n + 2]] for n in range(7, -1, -1)]))


class Changes(unittest.TestCase):
    def test_the_512th_and_the_513th(self):
        told = one(mark(), sets(511), row(1), set_(1, 0, 0, 0, 0), set_(1, 7, 0, 0, 0), put(*LOW), take(1), row(1),
                   count())
        self.assertEqual(told, [1, [512] + [1] * 512, [511, 0, 0, 0], 0, -9, -9, -9, LOW, [1, 1, 1, 2]])

    def test_puts_sets_and_takes_count_one_each(self):
        for change in (put(1, 1, 1, 1), set_(1, 600, 0, 0, 0), set_(1, 511, 0, 0, 0), take(1)):
            told = one(mark(), sets(511), change, put(*LOW))
            self.assertEqual(told[3], -9, change)
        for changes in ([put(1, 1, 1, 1), take(2)], [set_(1, 511, 0, 0, 0)] * 2):
            self.assertEqual(one(mark(), sets(511), *changes)[3], -9)
            self.assertEqual(one(mark(), sets(510), *changes, put(*LOW))[3:], [0, -9])

    def test_a_set_to_the_same_fields_counts(self):
        told = one(mark(), sets(511), set_(1, 511, 0, 0, 0), set_(1, 511, 0, 0, 0), back(), set_(1, *LOW))
        self.assertEqual(told[2:], [0, -9, 0, 0])

    def test_refused_ones_do_not_count(self):
        start = [order(1, 2), put(0, 0, 0, 0), put(5, 5, 0, 0), order(0, 1)]
        refused = [put(1), put(0, 5, 0, 0), set_(1, 0, 5, 0, 0), set_(9, 0, 0, 0, 0), set_(1), take(9), order(0, 1),
                   walk(1, 9, LOW, [1, 0, 0, 0], [3, 0, 1]), walk(1, 9, LOW, [1, 0, 0, 0], [2, 1, 5])]
        changes = [[2, 0, value] for value in range(6, 517)]
        told = ask(*start, mark(), walk(1, 1000, [5, 0, 0, 0], HIGH, *changes), *refused, set_(1, 0, 0, 0, 0), *refused,
                   set_(1, 0, 0, 0, 0))[6:]
        numbers = [-1, -20, -20, -4, -1, -4, -9, [1, 1], [1, 1]]
        self.assertEqual(told, numbers + [0] + numbers + [-9])

    def test_other_calls_do_not_count(self):
        told = one(mark(), sets(511), mark(), keep(), cursor(0, 0), save(), count(), set_(1, 9, 0, 0, 0),
                   set_(1, 9, 0, 0, 0))
        self.assertEqual(told[7:], [0, -9])

    def test_without_marks_nothing_counts(self):
        told = one(sets(600), sets(0), mark(), keep(), set_(1, 0, 0, 0, 0), sets(600), row(1), mark(),
                   set_(1, 0, 0, 0, 0), sets(511), take(1))
        self.assertEqual(told[6:], [[600, 0, 0, 0], 1, 0, [512] + [1] * 512, -9])

    def test_what_back_undid_does_not_count(self):
        told = one(mark(), mark(), sets(512), take(1), back(), sets(500), mark(), take(1), put(*LOW),
                   set_(2, 1, 1, 1, 1), back(), *[set_(1, 0, 0, 0, 0)] * 13, back(), sets(512), take(1))
        self.assertEqual(told[3:5], [-9, 1])
        self.assertEqual(told[7:11], [0, 2, 0, 1])
        self.assertEqual(told[11:25], [0] * 12 + [-9, 0])
        self.assertEqual(told[25:], [[513] + [1] * 513, 0])

    def test_what_was_kept_still_counts(self):
        told = one(mark(), mark(), sets(512), keep(), take(1), back(), take(1))
        self.assertEqual(told, [1, 2, [513] + [1] * 513, 1, -9, 0, 0])

    def test_changes_before_a_later_mark_count(self):
        told = one(mark(), sets(512), mark(), take(1), back(), take(1), back(), take(1))
        self.assertEqual(told, [1, [513] + [1] * 513, 2, -9, 1, -9, 0, 0])

    def test_a_first_mark_counts_anew(self):
        for end in (keep(), back()):
            told = one(mark(), sets(512), take(1), end, set_(1, 0, 0, 0, 0), mark(), sets(511), set_(1, 0, 0, 0, 0),
                       take(1))
            self.assertEqual(told[2:6] + told[7:], [-9, 0, 0, 1, 0, -9])

    def test_new_and_load_count_anew(self):
        told = one(mark(), sets(512), new(), *ONE, mark(), sets(511), take(1), take(1))
        self.assertEqual(told[2:6] + told[7:], [0, 0, 1, 1, 0, -4])
        bytes_ = saved([(0, [1])], [(1, LOW)], 2)
        told = one(mark(), sets(512), load(bytes_), mark(), sets(512), take(1))
        self.assertEqual(told[2:4] + told[5:], [0, 1, -9])

    def test_other_refusals_come_first(self):
        full = saved([(1, [1])], [(n, [n, 0, 0, 0]) for n in range(1, 256)], 300)
        start = [load(full), mark(), walk(0, 1000, [255, 0, 0, 0], HIGH, *[[2, 0, v] for v in range(300, 811)])]
        told = ask(*start, set_(1, 2, 0, 0, 0), set_(1, 1), set_(999, 1, 1, 1, 1), take(999), put(1), put(2, 0, 0, 0),
                   put(0, 0, 0, 0), set_(1, 2, 0, 0, 0), set_(1, 1), set_(999, 1, 1, 1, 1), take(999), put(1),
                   put(2, 0, 0, 0), put(5000, 0, 0, 0), set_(1, 1, 0, 0, 0), take(1))[3:]
        self.assertEqual(told, [-20, -1, -4, -4, -1, -20, 300, -20, -1, -4, -4, -1, -3, -3, -9, -9])
        told = ask(order(0, 2), order(1, 1), put(1, 0, 0, 0), mark(),
                   walk(0, 1000, LOW, [0, 9999, 0, 0], *[[2, 1, v] for v in range(1, 513)]), put(1, 0, 0, 0),
                   put(2, 0, 0, 0))
        self.assertEqual(told[5:], [-21, -9])


class Orders(unittest.TestCase):
    def test_no_order_while_a_mark_stands(self):
        told = one(mark(), order(0, 2), count(), mark(), order(1, 2), keep(), order(0, 2), back(), order(0, 2), count())
        self.assertEqual(told, [1, -9, [1, 1, 1, 2], 2, -9, 1, -9, 0, 1, [1, 2, 0, 2]])

    def test_other_refusals_come_first(self):
        told = one(put(*LOW), mark(), order(2, 1), order(0, 1, 1), order(1, 1), order(0, 1))
        self.assertEqual(told[2:], [-1, -1, -5, -9])
        told = ask(*[order(0, 1)] * 6, put(*LOW), put(*LOW), mark(), order(0, 1), order(1, 1))
        self.assertEqual(told[9:], [-3, -3])


class GivenBack(unittest.TestCase):
    """P5: back gives back the rows, to the last number, whatever came between."""

    def test_whatever_came_between(self):
        for seed in range(150):
            self.one_history(seed)

    def one_history(self, seed):
        model = Model()
        maker = Maker(seed, model)
        calls = []
        self.play(maker, calls, 30, ("new", "load", "keep", "back", "mark"))
        calls += [save(), mark()]
        start = len(calls) - 2
        model.mark()
        self.play(maker, calls, 90, ("new", "load"))
        while model.marks:
            undo = "keep" if len(model.marks) > 1 and maker.dice.random() < 0.5 else "back"
            getattr(model, undo)()
            calls.append(written(undo, []))
        told = ask(*calls, save())
        self.assertEqual(told[-2], 0)
        self.assertEqual(told[-1], told[start], seed)

    def play(self, maker, calls, end, but):
        """Make calls up to so many, none that takes the first mark away."""
        while len(calls) < end:
            name, args = maker.call()
            if name in but or name in ("keep", "back") and len(maker.model.marks) < 2:
                continue
            if name == "walk" and 4 in args[4][::3]:
                continue
            getattr(maker.model, name)(*args)
            calls.append(written(name, args))


if __name__ == "__main__":
    unittest.main()
