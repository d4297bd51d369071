"""Walks: what they tell, the deeds that go with the rows, and what's refused."""

import random
import unittest

from tests.model import Model, compare
from tests.writing import (HALF, TOP, ask, at, count, cursor, go, last, load, mark, next_, nth, order, put, row, saved,
                           set_, take, walk, walk_of)

HUGE = 4294967295
LOW = [0, 0, 0, 0]
HIGH = [TOP, 0, 0, 0]
NOTHING, TAKE, SET, PUT, BACK, END = range(6)
# Order 0 by field 0 up, order 1 by field 0 down, rows 1 to 5 (two of one key).
FIVE = [order(0, 1), order(0, 5), put(10, 1, 0, 0), put(20, 2, 0, 0), put(20, 3, 0, 0), put(30, 4, 0, 0),
        put(40, 5, 0, 0)]


def key(value):
    return [value, 77, 0, 0]


def five(*asked):
    return ask(*FIVE, *asked)[len(FIVE):]


class Telling(unittest.TestCase):
    def test_all_rows(self):
        self.assertEqual(five(walk(0, 1000, LOW, HIGH), walk(1, 1000, HIGH, LOW)),
                         [[5, 1, 2, 3, 4, 5], [5, 5, 4, 2, 3, 1]])

    def test_the_stretch(self):
        self.assertEqual(five(walk(0, 1000, key(10), key(40))), [[4, 1, 2, 3, 4]])
        self.assertEqual(five(walk(0, 1000, key(11), key(41))), [[4, 2, 3, 4, 5]])
        self.assertEqual(five(walk(0, 1000, key(20), key(21))), [[2, 2, 3]])
        self.assertEqual(five(walk(1, 1000, key(30), key(10))), [[3, 4, 2, 3]])

    def test_stretches_without_rows(self):
        self.assertEqual(five(walk(0, 1000, key(21), key(30)), walk(0, 1000, key(41), HIGH), walk(0, 1000, LOW, LOW)),
                         [0, 0, 0])
        self.assertEqual(ask(order(0, 1), walk(0, 1000, LOW, HIGH)), [0, 0])

    def test_a_behind_b_and_a_as_b(self):
        self.assertEqual(five(walk(0, 9, HIGH, LOW), walk(0, 9, key(30), key(10)), walk(0, 9, key(20), key(20)),
                              walk(1, 9, LOW, HIGH)), [0, 0, 0, 0])

    def test_most(self):
        self.assertEqual(five(walk(0, 0, LOW, HIGH), walk(0, 1, LOW, HIGH), walk(0, 4, LOW, HIGH),
                              walk(0, 5, LOW, HIGH), walk(0, 6, LOW, HIGH)),
                         [0, [1, 1], [4, 1, 2, 3, 4], [5, 1, 2, 3, 4, 5], [5, 1, 2, 3, 4, 5]])

    def test_most_0_does_no_deed(self):
        self.assertEqual(five(walk(0, 0, LOW, HIGH, [TAKE, 0, 0]), count()), [0, [5, 2, 0, 6]])

    def test_most_1000_and_1001(self):
        # The one row goes on before the walk, so only most ends it.
        start = [order(0, 1), put(0, 0, 0, 0)]
        deeds = [[SET, 0, value] for value in range(1, 1001)]
        told = ask(*start, walk(0, 1001, LOW, HIGH, *deeds), row(1), walk(0, HUGE, LOW, HIGH), row(1),
                   walk(0, 1000, LOW, HIGH, *deeds), row(1))
        self.assertEqual(told[2:], [-1, [0, 0, 0, 0], -1, [0, 0, 0, 0], [1000] + [1] * 1000, [1000, 0, 0, 0]])

    def test_256_rows(self):
        bytes_ = saved([(0, [5])], [(n, [n, 0, 0, 0]) for n in range(1, 257)], 257)
        self.assertEqual(ask(load(bytes_), walk(0, 1000, HIGH, LOW)), [0, [256] + list(range(256, 0, -1))])

    def test_a_walk_moves_no_cursor(self):
        self.assertEqual(five(cursor(0, 1), go(0, 2), walk(0, 9, LOW, HIGH), at(0), next_(0))[3:], [2, 3])


class Deeds(unittest.TestCase):
    def test_nothing(self):
        self.assertEqual(five(walk(0, 9, LOW, HIGH, [NOTHING, 3, TOP], [NOTHING, 0, 0]), count()),
                         [[5, 1, 2, 3, 4, 5], [5, 2, 0, 6]])

    def test_take(self):
        told = five(walk(0, 9, LOW, HIGH, [TAKE, 0, 0], [NOTHING, 0, 0], [TAKE, 3, 9]), walk(1, 9, HIGH, LOW), count())
        self.assertEqual(told, [[5, 1, 2, 3, 4, 5], [3, 5, 4, 2], [3, 2, 0, 6]])

    def test_set(self):
        told = five(walk(0, 9, key(20), key(30), [SET, 1, 99], [SET, 3, TOP]), row(2), row(3))
        self.assertEqual(told, [[2, 2, 3], [20, 99, 0, 0], [20, 3, 0, TOP]])

    def test_put(self):
        told = five(walk(0, 9, key(10), key(11), [PUT, 0, 50]), row(6), walk(0, 9, key(20), key(30), [PUT, 2, 8]),
                    row(7), count())
        self.assertEqual(told, [[1, 1], [50, 1, 0, 0], [3, 2, 3, 7], [20, 2, 8, 0], [7, 2, 0, 8]])

    def test_back(self):
        told = five(mark(), take(3), put(25, 0, 0, 0), walk(0, 9, key(20), HIGH, [BACK, 0, 0]), count())
        self.assertEqual(told, [1, 0, 6, [4, 2, 3, 4, 5], [5, 2, 0, 6]])

    def test_end(self):
        told = five(walk(0, 9, LOW, HIGH, [NOTHING, 0, 0], [END, 3, 7], [TAKE, 0, 0]), count(),
                    walk(0, 9, LOW, HIGH, [END, 0, 0]))
        self.assertEqual(told, [[2, 1, 2], [5, 2, 0, 6], [1, 1]])

    def test_fewer_deeds_than_rows(self):
        told = five(walk(0, 9, LOW, HIGH, [TAKE, 0, 0]), walk(0, 9, LOW, HIGH))
        self.assertEqual(told, [[5, 1, 2, 3, 4, 5], [4, 2, 3, 4, 5]])

    def test_more_deeds_than_rows(self):
        told = five(walk(0, 9, key(30), HIGH, *[[TAKE, 0, 0]] * 9), walk(0, 9, LOW, HIGH))
        self.assertEqual(told, [[2, 4, 5], [3, 1, 2, 3]])

    def test_more_deeds_than_most(self):
        told = five(walk(0, 2, LOW, HIGH, *[[TAKE, 0, 0]] * 9), walk(0, 9, LOW, HIGH))
        self.assertEqual(told, [[2, 1, 2], [3, 3, 4, 5]])

    def test_a_thousand_deeds(self):
        told = five(walk(0, 9, LOW, HIGH, *[[TAKE, 0, 0]] * 1000), count())
        self.assertEqual(told, [[5, 1, 2, 3, 4, 5], [0, 2, 0, 6]])

    def test_the_last_that_is_told_has_its_deed(self):
        self.assertEqual(five(walk(0, 1, LOW, HIGH, [SET, 0, 60]), row(1)), [[1, 1], [60, 1, 0, 0]])


class Moving(unittest.TestCase):
    def test_set_ahead_is_told_again(self):
        told = five(walk(0, 9, LOW, HIGH, [SET, 0, 25]), walk(0, 9, LOW, HIGH))
        self.assertEqual(told, [[6, 1, 2, 3, 1, 4, 5], [5, 2, 3, 1, 4, 5]])

    def test_set_ahead_beyond_the_end(self):
        self.assertEqual(five(walk(0, 9, LOW, key(30), [SET, 0, 30]), row(1)), [[3, 1, 2, 3], [30, 1, 0, 0]])

    def test_set_behind_is_not_told_again(self):
        told = five(walk(0, 9, LOW, HIGH, [NOTHING, 0, 0], [SET, 0, 5], [SET, 0, 0]), walk(0, 9, LOW, HIGH))
        self.assertEqual(told, [[5, 1, 2, 3, 4, 5], [5, 3, 2, 1, 4, 5]])

    def test_set_to_the_same_key_is_not_told_again(self):
        self.assertEqual(five(walk(0, 9, LOW, HIGH, *[[SET, 3, 1]] * 5)), [[5, 1, 2, 3, 4, 5]])

    def test_set_to_a_key_of_rows_ahead_stands_by_its_number(self):
        # Row 1 comes before row 2 of the same key, and still behind the place that it was told at.
        told = five(walk(0, 9, LOW, HIGH, [SET, 0, 20]))
        self.assertEqual(told, [[6, 1, 1, 2, 3, 4, 5]])
        self.assertEqual(five(walk(1, 9, HIGH, LOW, [SET, 0, 20])), [[6, 5, 4, 2, 3, 5, 1]])

    def test_set_on_and_on(self):
        deeds = [[SET, 0, value] for value in range(21, 29)]
        self.assertEqual(five(walk(0, 100, key(20), key(28), *deeds), row(2), row(3)),
                         [[9, 2, 3, 2, 3, 2, 3, 2, 3, 2], [27, 2, 0, 0], [28, 3, 0, 0]])

    def test_put_ahead_is_told(self):
        told = five(walk(0, 9, LOW, HIGH, [PUT, 0, 35], [PUT, 0, 15], [PUT, 0, 20]), walk(0, 9, LOW, HIGH))
        self.assertEqual(told, [[7, 1, 2, 3, 8, 4, 6, 5], [8, 1, 7, 2, 3, 8, 4, 6, 5]])

    def test_put_and_put_until_most(self):
        told = five(walk(0, 6, key(40), HIGH, *[[PUT, 0, value] for value in range(41, 60)]), count())
        self.assertEqual(told, [[6, 5, 6, 7, 8, 9, 10], [11, 2, 0, 12]])

    def test_take_the_row_and_go_on_from_its_place(self):
        self.assertEqual(five(walk(0, 9, key(20), HIGH, [TAKE, 0, 0], [TAKE, 0, 0])), [[4, 2, 3, 4, 5]])

    def test_back_in_the_midst(self):
        # Row 6 is told and then gone; the walk goes on from its place.
        told = five(mark(), put(20, 0, 0, 0), take(4), walk(0, 9, LOW, HIGH, [NOTHING, 0, 0], [NOTHING, 0, 0],
                    [NOTHING, 0, 0], [BACK, 0, 0]), count())
        self.assertEqual(told, [1, 6, 0, [6, 1, 2, 3, 6, 4, 5], [5, 2, 0, 6]])

    def test_back_gives_rows_ahead_and_behind(self):
        told = five(mark(), set_(1, 35, 0, 0, 0), set_(5, 5, 0, 0, 0),
                    walk(0, 9, LOW, HIGH, [NOTHING, 0, 0], [BACK, 0, 0]), walk(0, 9, LOW, HIGH))
        self.assertEqual(told, [1, 0, 0, [5, 5, 2, 3, 4, 5], [5, 1, 2, 3, 4, 5]])

    def test_back_of_what_the_walk_has_done(self):
        told = five(mark(), walk(0, 9, LOW, HIGH, [TAKE, 0, 0], [PUT, 0, 50], [SET, 0, 45], [BACK, 0, 0]), count(),
                    walk(0, 9, LOW, HIGH), put(1, 1, 1, 1))
        self.assertEqual(told, [1, [5, 1, 2, 3, 4, 5], [5, 2, 0, 6], [5, 1, 2, 3, 4, 5], 6])

    def test_back_of_several_marks(self):
        told = five(mark(), take(4), mark(), take(5), walk(0, 9, LOW, HIGH, [BACK, 0, 0], [BACK, 0, 0], [BACK, 0, 0],
                    [TAKE, 0, 0]), count())
        self.assertEqual(told, [1, 0, 2, 0, [5, 1, 2, 3, 4, 5], [4, 2, 0, 6]])

    def test_a_number_that_comes_again_at_another_place(self):
        told = five(mark(), put(25, 0, 0, 0), walk(0, 9, key(25), HIGH, [BACK, 0, 0], [PUT, 0, 35]))
        self.assertEqual(told, [1, 6, [4, 6, 4, 6, 5]])

    def test_followers_go_with_deeds(self):
        told = five(cursor(0, 1), cursor(0, 0), go(0, 1), go(1, 1), walk(0, 1, LOW, HIGH, [SET, 0, 35]), at(0), at(1),
                    next_(0), next_(1))
        self.assertEqual(told[5:], [1, 0, 5, 2])

    def test_orders_stay_in_step(self):
        told = five(walk(0, 9, LOW, HIGH, [SET, 0, 50], [TAKE, 0, 0], [PUT, 0, 5]), *[nth(1, j) for j in range(6)])
        self.assertEqual(told, [[6, 1, 2, 3, 4, 5, 1], 1, 5, 4, 3, 6, 0])

    def test_on_numbers_with_a_sign(self):
        told = ask(order(0, 9), put(1, 0, 0, 0), put(TOP, 0, 0, 0), put(HALF, 0, 0, 0),
                   walk(0, 9, [HALF, 0, 0, 0], [2, 0, 0, 0], [SET, 0, TOP - 1]), walk(0, 9, LOW, [HALF - 1, 0, 0, 0]))
        self.assertEqual(told[4:], [[4, 3, 3, 2, 1], [1, 1]])


class RefusedDeeds(unittest.TestCase):
    def test_keys_that_are_taken(self):
        told = ask(order(1, 1), put(1, 0, 0, 0), put(2, 0, 0, 0), put(3, 0, 0, 0),
                   walk(0, 9, LOW, HIGH, [SET, 0, 3], [PUT, 1, 5], [PUT, 0, 4]), row(1), row(4), count())
        self.assertEqual(told[4:], [[4, 1, 2, 3, 4], [1, 0, 0, 0], [4, 0, 0, 0], [4, 1, 0, 5]])

    def test_back_without_a_mark(self):
        self.assertEqual(five(walk(0, 9, LOW, HIGH, [BACK, 0, 0]), count()), [[5, 1, 2, 3, 4, 5], [5, 2, 0, 6]])

    def test_put_without_room(self):
        bytes_ = saved([(0, [1])], [(n, [n, 0, 0, 0]) for n in range(1, 257)], 257)
        told = ask(load(bytes_), walk(0, 3, LOW, HIGH, [PUT, 0, 0], [TAKE, 0, 0], [PUT, 0, 0]), count(), row(257))
        self.assertEqual(told[1:], [[3, 1, 2, 3], [256, 1, 0, 258], [0, 0, 0, 0]])

    def test_put_without_a_number(self):
        told = ask(load(saved([(0, [1])], [(7, [1, 2, 3, 4])], 2 ** 31)), walk(0, 3, LOW, HIGH, [PUT, 0, 9]), count())
        self.assertEqual(told[1:], [[1, 7], [1, 1, 0, 2 ** 31]])

    def test_more_than_512_changes(self):
        deeds = [[SET, 0, value] for value in range(1, 601)]
        told = ask(order(0, 1), put(0, 0, 0, 0), mark(), walk(0, 1000, LOW, HIGH, *deeds), row(1), take(1),
                   walk(0, 9, LOW, HIGH, [TAKE, 0, 0]), walk(0, 9, LOW, HIGH, [PUT, 0, 0]), count(),
                   walk(0, 9, LOW, HIGH, [BACK, 0, 0]), row(1))
        # The 513th set isn't done, so nothing is ahead of it any more.
        self.assertEqual(told[3:], [[513] + [1] * 513, [512, 0, 0, 0], -9, [1, 1], [1, 1], [1, 1, 1, 2], [1, 1],
                                    [0, 0, 0, 0]])


class Refused(unittest.TestCase):
    def test_no_deeds(self):
        for numbers in ([0], [0, 0], [0, 0, 0, 0], [1, 2, 3, 4, 5], [6, 0, 0], [TOP, 0, 0], [0, 4, 0], [0, TOP, 0],
                        [4, 4, 0], [5, 4, 0], [5, 0, 0, 6, 0, 0], [5, 0, 0, 0, 4, 0], [0] * 2999,
                        [1, 0, 0] * 999 + [6, 0, 0], [1, 0, 0] * 999 + [1, 4, 0]):
            self.assertEqual(five(walk_of(0, 9, LOW, HIGH, numbers), walk_of(0, 0, LOW, HIGH, numbers), count()),
                             [-1, -1, [5, 2, 0, 6]], numbers[:9])

    def test_deeds(self):
        for numbers in ([], [0, 0, 0], [5, 3, TOP], [0, 3, TOP] * 1000):
            self.assertEqual(five(walk_of(0, 1, LOW, HIGH, numbers)), [[1, 1]])

    def test_no_rows(self):
        for wrong in ([], [1, 2, 3], [1, 2, 3, 4, 5], [0] * 8):
            self.assertEqual(five(walk(0, 9, wrong, HIGH), walk(0, 9, LOW, wrong), walk(0, 9, wrong, wrong)), [-1] * 3)

    def test_no_order(self):
        for k in (2, 6, HUGE):
            self.assertEqual(five(walk(k, 9, LOW, HIGH, [TAKE, 0, 0]), walk(k, 0, LOW, HIGH)), [-2, -2])

    def test_wrong_form_comes_before_no_order(self):
        told = ask(walk(0, 1001, LOW, HIGH), walk(0, 9, [], HIGH), walk(0, 9, LOW, []), walk_of(0, 9, LOW, HIGH, [0]),
                   walk(0, 9, LOW, HIGH, [6, 0, 0]), walk(0, 9, LOW, HIGH, [0, 4, 0]), walk(0, 9, LOW, HIGH))
        self.assertEqual(told, [-1] * 6 + [-2])

    def test_nothing_is_done(self):
        told = five(walk(0, 1001, LOW, HIGH, [TAKE, 0, 0]), walk(2, 9, LOW, HIGH, [TAKE, 0, 0]), count())
        self.assertEqual(told, [-1, -2, [5, 2, 0, 6]])


class RisingPlaces(unittest.TestCase):
    """P4: a walk tells places that rise; a row that stays in the stretch with one place is told just once."""

    def test_over_many_walks(self):
        for seed in range(200):
            self.one_walk(random.Random(seed))

    def one_walk(self, dice):
        codes = dice.choice([[1], [5], [9, 2], [14, 1], [3, 2, 1, 4]])
        values = dice.choice([[0, 1, 2, 3], [0, HALF - 1, HALF, TOP]])

        def fields():
            return [dice.choice(values) for each in range(4)]

        start = [order(dice.choice([0, 0, 1]), *codes)] + [put(*fields()) for each in range(12)]
        if dice.random() < 0.5:
            start += [mark(), put(*fields()), take(dice.randint(1, 12)), set_(dice.randint(1, 12), *fields())]
        a, b = fields(), fields()
        if compare(codes, a, b) > 0:
            a, b = b, a
        deeds = [[dice.choice([0, 1, 2, 2, 3, 3, 4]), dice.randrange(4), dice.choice(values)] for each in range(30)]
        model = Model()
        rows_seen = []
        self.play(model, start)
        told = last(*start, walk(0, 1000, a, b, *deeds))
        told = told[1:] if told else []
        places = []
        for n, deed in zip(told, deeds + [[0, 0, 0]] * len(told)):
            rows_seen.append(dict(model.rows))
            places.append((model.rows[n], n))
            what, f, x = deed
            like = model.rows[n][:f] + [x] + model.rows[n][f + 1:]
            [lambda: 0, lambda: model.take(n), lambda: model.set(n, like), lambda: model.put(like), model.back][what]()
        rows_seen.append(dict(model.rows))
        for (fields_, n), (others, m) in zip(places, places[1:]):
            self.assertLess(compare(codes, fields_, others) or n - m, 0)
        for n, stays in rows_seen[0].items():
            if all(rows.get(n) == stays for rows in rows_seen):
                inside = compare(codes, stays, a) >= 0 and compare(codes, stays, b) < 0
                self.assertEqual(told.count(n), 1 if inside else 0)
        for fields_, n in places:
            self.assertTrue(compare(codes, fields_, a) >= 0 and compare(codes, fields_, b) < 0)

    def play(self, model, calls):
        for call in calls:
            if call[0] == 1:
                model.order(call[1], call[3:])
            if call[0] == 2:
                model.put(call[2:])
            if call[0] == 3:
                model.set(call[1], call[3:])
            if call[0] == 4:
                model.take(call[1])
            if call[0] == 21:
                model.mark()


if __name__ == "__main__":
    unittest.main()
