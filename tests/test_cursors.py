"""Cursors: where they stand, what moves them, and what they tell while rows come and go."""

import random
import unittest

from tests.model import Model, compare
from tests.writing import (HALF, TOP, ask, at, back, count, cursor, drop, go, keep, last, load, mark, new, next_,
                           order, prev, put, row, saved, seek, set_, take, walk)

HUGE = 4294967295


def key(value, other=0):
    return [value, other, 0, 0]


# Order 0 by field 0 up, rows 1 to 4 (two of one key), and cursor 0, which doesn't follow.
FOUR = [order(0, 1), put(10, 0, 0, 0), put(20, 0, 0, 0), put(20, 1, 0, 0), put(30, 0, 0, 0), cursor(0, 0)]


def four(*asked):
    return ask(*FOUR, *asked)[len(FOUR):]


class Ends(unittest.TestCase):
    def test_a_new_cursor_is_before_all(self):
        self.assertEqual(four(at(0), next_(0), at(0)), [0, 1, 1])
        self.assertEqual(four(at(0), prev(0), at(0), next_(0)), [0, 0, 0, 1])

    def test_next_to_the_end_and_beyond(self):
        told = four(next_(0), next_(0), next_(0), next_(0), next_(0), at(0), next_(0), at(0), prev(0))
        self.assertEqual(told, [1, 2, 3, 4, 0, 0, 0, 0, 4])

    def test_prev_to_the_beginning_and_beyond(self):
        told = four(go(0, 4), prev(0), prev(0), prev(0), prev(0), at(0), prev(0), at(0), next_(0))
        self.assertEqual(told, [0, 3, 2, 1, 0, 0, 0, 0, 1])

    def test_without_rows(self):
        start = [order(0, 1), cursor(0, 1)]
        self.assertEqual(ask(*start, next_(0), at(0), next_(0), prev(0), prev(0), at(0))[2:], [0] * 6)

    def test_behind_all_stays_behind_rows_that_come(self):
        told = four(*[next_(0)] * 5, put(TOP, 0, 0, 0), at(0), next_(0), prev(0), prev(0))
        self.assertEqual(told[4:], [0, 5, 0, 0, 5, 4])

    def test_before_all_stays_before_rows_that_come(self):
        self.assertEqual(four(next_(0), prev(0), put(0, 0, 0, 0), prev(0), next_(0), next_(0)), [1, 0, 5, 0, 5, 1])

    def test_ends_in_every_way_an_order_can_go(self):
        for code in (1, 5, 9, 13):
            for value in (0, 1, HALF - 1, HALF, HALF + 1, TOP):
                start = [order(0, code), cursor(0, 0), put(value, 0, 0, 0)]
                told = ask(*start, prev(0), next_(0), next_(0), next_(0), prev(0), prev(0), prev(0), next_(0))[3:]
                self.assertEqual(told, [0, 1, 0, 0, 1, 0, 0, 1], (code, value))
                told = ask(*start, seek(0, 0, key(value)), prev(0), next_(0), seek(0, 1, key(value)), next_(0),
                           prev(0))[3:]
                self.assertEqual(told, [0, 0, 1, 0, 0, 1], (code, value))


class Going(unittest.TestCase):
    def test_go(self):
        self.assertEqual(four(go(0, 3), at(0), next_(0), go(0, 3), prev(0), go(0, 1), at(0)), [0, 3, 4, 0, 2, 0, 1])

    def test_go_to_no_row(self):
        self.assertEqual(four(go(0, 2), go(0, 0), go(0, 5), go(0, HUGE), at(0), take(1), go(0, 1), at(0)),
                         [0, -4, -4, -4, 2, 0, -4, 2])

    def test_no_cursor(self):
        for c in (1, 15, 16, HUGE):
            self.assertEqual(four(go(c, 1), seek(c, 0, key(10)), at(c), next_(c), prev(c)), [-4] * 5)
        self.assertEqual(four(drop(0), go(0, 1), seek(0, 1, key(10)), at(0), next_(0), prev(0)), [0] + [-4] * 5)

    def test_a_number_that_is_free_again_is_before_all(self):
        self.assertEqual(four(go(0, 3), drop(0), cursor(0, 1), at(0), next_(0)), [0, 0, 0, 0, 1])

    def test_new_and_load_drop_cursors(self):
        self.assertEqual(four(new(), at(0), order(0, 1), at(0), cursor(0, 0), at(0)), [0, -4, 0, -4, 0, 0])
        bytes_ = saved([(0, [1])], [], 1)
        self.assertEqual(four(load(bytes_), at(0), next_(0), cursor(0, 0), next_(0)), [0, -4, -4, 0, 0])


class Seeking(unittest.TestCase):
    def sides(self, behind, value):
        """What at, next and prev tell from there."""
        to = seek(0, behind, key(value, 99))
        told = four(to, at(0), next_(0), to, prev(0))
        return [told[1], told[2], told[4]]

    def test_before_the_rows_of_a_key(self):
        self.assertEqual([self.sides(0, value) for value in (0, 10, 15, 20, 25, 30, 35)],
                         [[0, 1, 0], [0, 1, 0], [0, 2, 1], [0, 2, 1], [0, 4, 3], [0, 4, 3], [0, 0, 4]])

    def test_behind_the_rows_of_a_key(self):
        self.assertEqual([self.sides(1, value) for value in (0, 10, 15, 20, 25, 30, 35)],
                         [[0, 1, 0], [0, 2, 1], [0, 2, 1], [0, 4, 3], [0, 4, 3], [0, 0, 4], [0, 0, 4]])

    def test_rows_that_come_stand_on_their_side(self):
        told = four(seek(0, 0, key(20)), put(20, 5, 0, 0), next_(0), next_(0), next_(0), next_(0))
        self.assertEqual(told, [0, 5, 2, 3, 5, 4])
        told = four(seek(0, 1, key(20)), put(20, 5, 0, 0), next_(0), prev(0), prev(0))
        self.assertEqual(told, [0, 5, 4, 5, 3])
        told = four(seek(0, 1, key(20)), put(20, 5, 0, 0), prev(0))
        self.assertEqual(told, [0, 5, 5])

    def test_a_cursor_between_rows_of_one_key(self):
        told = four(go(0, 2), take(2), at(0), next_(0), prev(0), set_(1, 20, 0, 0, 0), prev(0))
        self.assertEqual(told, [0, 0, 0, 3, 1, 0, 0])
        told = four(go(0, 2), take(2), set_(1, 20, 0, 0, 0), prev(0), next_(0))
        self.assertEqual(told, [0, 0, 0, 1, 3])

    def test_refusals(self):
        told = four(go(0, 2), seek(0, 2, key(20)), seek(0, HUGE, key(20)), seek(0, 0, [1, 2, 3]), seek(0, 1, []),
                    seek(0, 0, [0] * 5), at(0))
        self.assertEqual(told, [0, -1, -1, -1, -1, -1, 2])
        self.assertEqual(four(seek(7, 2, key(20)), seek(7, 0, [1]), seek(7, 1, key(20))), [-1, -1, -4])


class Changing(unittest.TestCase):
    def test_a_row_that_is_taken_leaves_its_cursor(self):
        for follows in (0, 1):
            told = ask(*FOUR[:5], cursor(0, follows), go(0, 3), take(3), at(0), next_(0), go(0, 2), next_(0))[6:]
            self.assertEqual(told, [0, 0, 0, 4, 0, 4])
            told = ask(*FOUR[:5], cursor(0, follows), go(0, 3), take(3), prev(0), next_(0))[6:]
            self.assertEqual(told, [0, 0, 2, 4])

    def test_a_row_like_the_taken_one_is_another(self):
        told = four(go(0, 3), take(3), put(20, 1, 0, 0), at(0), next_(0))
        self.assertEqual(told, [0, 0, 5, 0, 5])

    def test_set_to_the_same_key(self):
        for follows in (0, 1):
            told = ask(*FOUR[:5], cursor(0, follows), go(0, 2), set_(2, 20, 9, 9, 9), at(0), prev(0), next_(0),
                       next_(0))[6:]
            self.assertEqual(told, [0, 0, 2, 1, 2, 3])

    def test_set_to_another_key_without_following(self):
        told = four(go(0, 2), set_(2, 25, 0, 0, 0), at(0), next_(0), next_(0), next_(0))
        self.assertEqual(told, [0, 0, 0, 3, 2, 4])
        told = four(go(0, 2), set_(2, 5, 0, 0, 0), at(0), prev(0), prev(0), prev(0))
        self.assertEqual(told, [0, 0, 0, 1, 2, 0])

    def test_set_to_another_key_and_back_again(self):
        told = four(go(0, 2), set_(2, 25, 0, 0, 0), at(0), set_(2, 20, 7, 0, 0), at(0))
        self.assertEqual(told, [0, 0, 0, 0, 2])

    def test_set_to_another_key_with_following(self):
        told = ask(*FOUR[:5], cursor(0, 1), go(0, 2), set_(2, 25, 0, 0, 0), at(0), prev(0), next_(0), next_(0))[6:]
        self.assertEqual(told, [0, 0, 2, 3, 2, 4])
        told = ask(*FOUR[:5], cursor(0, 1), go(0, 2), set_(2, 5, 0, 0, 0), at(0), next_(0))[6:]
        self.assertEqual(told, [0, 0, 2, 1])

    def test_following_again_and_again(self):
        told = ask(*FOUR[:5], cursor(0, 1), next_(0), set_(1, 40, 0, 0, 0), set_(1, 15, 0, 0, 0), at(0),
                   set_(1, 20, 0, 0, 0), next_(0))[6:]
        self.assertEqual(told, [1, 0, 0, 1, 0, 2])

    def test_a_cursor_that_is_not_at_the_row_does_not_follow(self):
        told = ask(*FOUR[:5], cursor(0, 1), seek(0, 0, key(20)), set_(2, 40, 0, 0, 0), next_(0), at(0))[6:]
        self.assertEqual(told, [0, 0, 3, 3])
        told = ask(*FOUR[:5], cursor(0, 1), seek(0, 1, key(20)), set_(3, 5, 0, 0, 0), prev(0))[6:]
        self.assertEqual(told, [0, 0, 2])
        told = ask(*FOUR[:5], cursor(0, 1), go(0, 2), set_(3, 50, 0, 0, 0), at(0), set_(4, 20, 0, 0, 0), at(0))[6:]
        self.assertEqual(told, [0, 0, 2, 0, 2])

    def test_before_all_and_behind_all_do_not_follow(self):
        told = ask(*FOUR[:5], cursor(0, 1), set_(1, 40, 0, 0, 0), next_(0), *[next_(0)] * 4, set_(1, 5, 0, 0, 0),
                   next_(0), prev(0))[6:]
        self.assertEqual(told, [0, 2, 3, 4, 1, 0, 0, 0, 4])

    def test_a_follower_that_lost_its_row_follows_when_it_is_at_it_again(self):
        start = [order(0, 1), put(10, 0, 0, 0), cursor(0, 1), mark(), set_(1, 30, 0, 0, 0), go(0, 1), back()]
        told = ask(*start, at(0), set_(1, 20, 0, 0, 0), at(0), set_(1, 30, 0, 0, 0), at(0), set_(1, 40, 0, 0, 0),
                   at(0), next_(0), prev(0))[7:]
        self.assertEqual(told, [0, 0, 0, 0, 1, 0, 1, 0, 1])

    def test_a_refused_set_takes_none_along(self):
        start = [order(1, 1), put(10, 0, 0, 0), put(20, 0, 0, 0), cursor(0, 1), go(0, 1)]
        told = ask(*start, set_(1, 20, 0, 0, 0), set_(1, 30), at(0), next_(0))[5:]
        self.assertEqual(told, [-20, -1, 1, 2])
        # A walk that sets row 2 five hundred and twelve times leaves no change.
        many_sets = [[2, 0, value] for value in range(100, 612)]
        told = ask(*start, mark(), walk(0, 512, key(20), key(1000), *many_sets), set_(1, 15, 0, 0, 0), at(0))[5:]
        self.assertEqual(told, [1, [512] + [2] * 512, -9, 1])


class Several(unittest.TestCase):
    START = [order(0, 1), order(0, 6), order(0, 3, 9), put(1, 1, 5, 0), put(2, 2, 5, 0), put(3, 3, 5, 0),
             cursor(0, 0), cursor(1, 0), cursor(2, 1), cursor(1, 1)]

    def told(self, *asked):
        return ask(*self.START, *asked)[len(self.START):]

    def test_each_goes_by_its_own_order(self):
        told = self.told(next_(0), next_(1), next_(2), next_(3), next_(0), next_(1), prev(2),
                         at(0), at(1), at(2), at(3))
        self.assertEqual(told, [1, 3, 1, 3, 2, 2, 0, 2, 2, 0, 3])

    def test_each_follows_in_its_own_order(self):
        told = self.told(*[go(c, 2) for c in range(4)], set_(2, 2, 9, 5, 0), *[at(c) for c in range(4)],
                         *[next_(c) for c in range(4)])
        self.assertEqual(told[5:], [2, 0, 2, 2, 3, 1, 3, 3])

    def test_drop_leaves_the_others(self):
        told = self.told(*[go(c, 2) for c in range(4)], drop(1), at(0), at(1), at(2), at(3), cursor(0, 0), next_(1))
        self.assertEqual(told[4:], [0, 2, -4, 2, 2, 1, 1])

    def test_sixteen_cursors_at_one_row(self):
        calls = [order(0, 5), put(5, 0, 0, 0), put(3, 0, 0, 0)] + [cursor(0, c % 2) for c in range(16)]
        calls += [go(c, 1) for c in range(16)] + [set_(1, 1, 0, 0, 0)] + [at(c) for c in range(16)]
        self.assertEqual(ask(*calls)[-16:], [0, 1] * 8)
        self.assertEqual(ask(*calls, *[next_(c) for c in range(16)])[-16:], [2, 0] * 8)

    def test_an_order_that_comes_leaves_cursors(self):
        self.assertEqual(self.told(go(0, 2), order(0, 4), at(0), next_(0)), [0, 3, 2, 3])


class AcrossBack(unittest.TestCase):
    def test_at_a_row_that_back_takes(self):
        told = four(mark(), put(25, 0, 0, 0), go(0, 5), at(0), back(), at(0), next_(0), prev(0))
        self.assertEqual(told, [1, 5, 0, 5, 0, 0, 4, 3])

    def test_the_number_comes_again(self):
        told = four(mark(), put(25, 0, 0, 0), go(0, 5), back(), put(25, 9, 9, 9), at(0), row(5))
        self.assertEqual(told, [1, 5, 0, 0, 5, 5, [25, 9, 9, 9]])
        told = four(mark(), put(25, 0, 0, 0), go(0, 5), back(), put(26, 0, 0, 0), at(0), next_(0))
        self.assertEqual(told, [1, 5, 0, 0, 5, 0, 5])

    def test_at_a_row_that_back_gives_again(self):
        told = four(go(0, 2), mark(), take(2), at(0), back(), at(0))
        self.assertEqual(told, [0, 1, 0, 0, 0, 2])

    def test_a_follower_stays_where_it_went(self):
        start = FOUR[:5] + [cursor(0, 1), go(0, 1), mark(), set_(1, 25, 0, 0, 0), back()]
        self.assertEqual(ask(*start, at(0), row(1))[10:], [0, [10, 0, 0, 0]])
        self.assertEqual(ask(*start, next_(0))[10:], [4])
        self.assertEqual(ask(*start, prev(0))[10:], [3])

    def test_where_a_cursor_went_since_the_mark(self):
        told = four(go(0, 1), mark(), go(0, 3), back(), at(0), mark(), next_(0), keep(), at(0))
        self.assertEqual(told, [0, 1, 0, 0, 3, 1, 4, 0, 4])

    def test_cursors_made_and_dropped_since_the_mark(self):
        told = four(cursor(0, 0), mark(), drop(1), cursor(0, 0), cursor(0, 0), next_(2), drop(0), back(), at(0), at(1),
                    at(2), count())
        self.assertEqual(told[7:], [0, -4, 0, 1, [4, 1, 0, 5]])

    def test_next_across_back(self):
        told = four(next_(0), mark(), next_(0), take(3), put(22, 0, 0, 0), next_(0), back(), next_(0), next_(0))
        self.assertEqual(told, [1, 1, 2, 0, 5, 5, 0, 4, 0])


class EachRowOnce(unittest.TestCase):
    """P3: whatever rows come and go, next tells each row behind a cursor once, in order; prev the other way round."""

    def test_rows_that_stay_are_told_once(self):
        for seed in range(150):
            self.one_history(random.Random(seed), next_ if seed % 2 else prev)

    def one_history(self, dice, step):
        codes = dice.choice([[1], [5], [9, 2], [14, 1], [1, 2, 3, 4]])
        values = dice.choice([[0, 1, 2, 3], [0, HALF - 1, HALF, TOP]])

        def fields():
            return [dice.choice(values) for each in range(4)]

        model = Model()
        calls = []

        def do(call, told):
            calls.append(call)
            return told

        do(order(0, *codes), model.order(0, codes))
        for each in range(12):
            drawn = fields()
            do(put(*drawn), model.put(drawn))
        first = fields()
        forward = step is next_
        calls += [cursor(0, 0), seek(0, 0 if forward else 1, first)]
        stays = {n: model.rows[n] for n in model.rows}
        steps = []
        # How every row stood when it was told.
        places = {}
        for each in range(60):
            what = dice.choice(["step", "step", "put", "set", "take", "mark", "back"])
            n = dice.choice(sorted(model.rows) or [0])
            drawn = fields()
            if what == "step":
                steps.append(len(calls))
                places[len(calls)] = dict(model.rows)
                calls.append(step(0))
            if what == "put":
                do(put(*drawn), model.put(drawn))
            if what == "set":
                do(set_(n, *drawn), model.set(n, drawn))
            if what == "take":
                do(take(n), model.take(n))
            if what == "mark":
                do(mark(), model.mark())
            if what == "back":
                do(back(), model.back())
            stays = {n: stays[n] for n in stays if model.rows.get(n) == stays[n]}
        for each in range(len(model.rows) + 1):
            steps.append(len(calls))
            places[len(calls)] = dict(model.rows)
            calls.append(step(0))
        told = ask(*calls)
        seen = [(told[index], index) for index in steps]
        self.check(codes, first, forward, stays, seen, places)

    def check(self, codes, first, forward, stays, seen, places):
        numbers = [n for n, index in seen]
        self.assertEqual(numbers[-1], 0)
        self.assertEqual(set(numbers[numbers.index(0):]), {0})
        rows = [(places[index][n], n) for n, index in seen if n]
        for (fields, n), (others, m) in zip(rows, rows[1:]):
            side = compare(codes, fields, others) or n - m
            self.assertTrue(side < 0 if forward else side > 0)
        for n, fields in stays.items():
            side = compare(codes, first, fields)
            ahead = side <= 0 if forward else side >= 0
            self.assertEqual(numbers.count(n), 1 if ahead else 0)


class Refused(unittest.TestCase):
    def test_every_call_on_no_cursor(self):
        self.assertEqual(ask(go(0, 1), seek(0, 0, key(0)), at(0), next_(0), prev(0)), [-4] * 5)

    def test_no_cursor_and_no_row(self):
        self.assertEqual(last(*FOUR, go(1, 99)), -4)


if __name__ == "__main__":
    unittest.main()
