"""The calls that ask of orders and rows alone: sound, before, pack, unpack."""

import itertools
import random
import unittest

from tests.model import compare, sound_order
from tests.writing import HALF, TOP, ask, before, count, last, mark, order, pack, put, sound, unpack

SIDES = [0, 1, 255, 256, HALF - 1, HALF, HALF + 1, TOP - 1, TOP]
ROW = [1, 2, 3, 4]
WRONG_ROWS = [[], [1], [1, 2, 3], [1, 2, 3, 4, 5], [0] * 8]
WRONG_ORDERS = [[], [0], [17], [255], [1, 1], [1, 5], [2, 10, 1], [1, 2, 3, 4, 5], [1, 0], [1, 2, 3, 4, 0], [0, 1],
                [1] * 8]


def some_orders():
    """Orders of one to four fields, each field in each way."""
    dice = random.Random(5)
    out = [[code] for code in range(1, 17)]
    for length in (2, 3, 4):
        for each in range(12):
            out.append([1 + f + 4 * dice.randrange(4) for f in dice.sample(range(4), length)])
    return out


class Sound(unittest.TestCase):
    def test_orders(self):
        for codes in [[1], [16], [1, 2, 3, 4], [4, 7, 10, 13], [16, 1]] + some_orders():
            self.assertEqual(last(sound(*codes)), 1, codes)

    def test_no_orders(self):
        for codes in WRONG_ORDERS:
            self.assertEqual(last(sound(*codes)), 0, codes)

    def test_all_of_one_and_two_numbers(self):
        for code in range(256):
            self.assertEqual(last(sound(code)), int(1 <= code <= 16), code)
        for one, two in itertools.product(range(19), repeat=2):
            self.assertEqual(last(sound(one, two)), int(sound_order([one, two])), (one, two))

    def test_a_mark_does_not_bar_it(self):
        self.assertEqual(ask(mark(), sound(1), before([1], ROW, ROW), pack([1], [0] * 4)), [1, 1, 1, [0] * 32])


class Before(unittest.TestCase):
    def test_up_and_down_with_and_without_sign(self):
        low, high = [5, 0, 0, 0], [HALF + 5, 0, 0, 0]
        for code, wanted in ((1, 0), (5, 2), (9, 2), (13, 0)):
            self.assertEqual(ask(before([code], low, high), before([code], high, low), before([code], low, low)),
                             [wanted, 2 - wanted, 1])

    def test_by_the_first_field_that_differs(self):
        a, b = [1, 2, 3, 4], [1, 9, 0, 4]
        self.assertEqual(ask(before([1], a, b), before([1, 4], a, b), before([1, 2], a, b), before([1, 6], a, b),
                             before([3, 2], a, b), before([4, 1, 15, 2], a, b)), [1, 1, 0, 2, 2, 0])

    def test_against_the_model(self):
        dice = random.Random(2)
        for codes in some_orders():
            for each in range(25):
                a, b = [[dice.choice(SIDES) for f in range(4)] for row in (0, 1)]
                if each % 3 == 0:
                    b = [b[f] if f == each % 4 else a[f] for f in range(4)]
                side = compare(codes, a, b)
                self.assertEqual(last(before(codes, a, b)), 1 if side == 0 else 0 if side < 0 else 2, (codes, a, b))

    def test_refusals(self):
        for codes in WRONG_ORDERS:
            self.assertEqual(last(before(codes, ROW, ROW)), -1, codes)
        for row in WRONG_ROWS:
            self.assertEqual(ask(before([1], row, ROW), before([1], ROW, row), before([0], row, row)), [-1] * 3)


class Pack(unittest.TestCase):
    FIELDS = [0x0102030405060708, 0, TOP, HALF]

    def test_each_way(self):
        up = [1, 2, 3, 4, 5, 6, 7, 8]
        down = [254, 253, 252, 251, 250, 249, 248, 247]
        self.assertEqual(last(pack([1], self.FIELDS)), up + [0] * 24)
        self.assertEqual(last(pack([5], self.FIELDS)), down + [0] * 24)
        self.assertEqual(last(pack([9], self.FIELDS)), [129] + up[1:] + [0] * 24)
        self.assertEqual(last(pack([13], self.FIELDS)), [126] + down[1:] + [0] * 24)

    def test_edges(self):
        ones, zeros = [255] * 8, [0] * 8
        self.assertEqual(last(pack([2, 3, 4], self.FIELDS)), zeros + ones + [128] + [0] * 7 + zeros)
        self.assertEqual(last(pack([6, 7, 8], self.FIELDS)), ones + zeros + [127] + [255] * 7 + zeros)
        self.assertEqual(last(pack([12, 11, 10], self.FIELDS)), zeros + [127] + [255] * 7 + [128] + [0] * 7 + zeros)
        self.assertEqual(last(pack([16, 15, 14, 1], self.FIELDS)),
                         ones + [128] + [0] * 7 + [127] + [255] * 7 + [1, 2, 3, 4, 5, 6, 7, 8])

    def test_bytes_compare_as_the_order_does(self):
        dice = random.Random(3)
        for codes in some_orders():
            rows = [[dice.choice(SIDES) for f in range(4)] for each in range(12)]
            rows += [[value if f == (codes[-1] - 1) % 4 else 7 for f in range(4)] for value in SIDES]
            packed = ask(*[pack(codes, row) for row in rows])
            for a, b in itertools.combinations(range(len(rows)), 2):
                side = compare(codes, rows[a], rows[b])
                self.assertEqual((packed[a] > packed[b]) - (packed[a] < packed[b]), (side > 0) - (side < 0))

    def test_refusals(self):
        for codes in WRONG_ORDERS:
            self.assertEqual(last(pack(codes, ROW)), -1, codes)
        for row in WRONG_ROWS:
            self.assertEqual(ask(pack([1], row), pack([], row)), [-1, -1], row)

    def test_the_table_is_not_asked(self):
        told = ask(order(0, 2), put(9, 9, 9, 9), pack([4], ROW), unpack([4], [0] * 32), sound(3), before([1], ROW, ROW),
                   count())
        self.assertEqual(told[2:], [[0] * 7 + [4] + [0] * 24, [0, 0, 0, 0], 1, 1, [1, 1, 0, 2]])


class Unpack(unittest.TestCase):
    def test_each_way(self):
        bytes_ = [1, 2, 3, 4, 5, 6, 7, 8] + [0] * 24
        value = 0x0102030405060708
        self.assertEqual(last(unpack([1], bytes_)), [value, 0, 0, 0])
        self.assertEqual(last(unpack([6], bytes_)), [0, TOP - value, 0, 0])
        self.assertEqual(last(unpack([11], bytes_)), [0, 0, value + HALF, 0])
        self.assertEqual(last(unpack([16], bytes_)), [0, 0, 0, HALF - 1 - value])

    def test_several_fields(self):
        bytes_ = [0] * 7 + [1] + [0] * 7 + [2] + [0] * 7 + [3] + [0] * 7 + [4]
        self.assertEqual(ask(unpack([1, 2, 3, 4], bytes_), unpack([4, 3, 2, 1], bytes_), unpack([3, 1], bytes_),
                             unpack([2, 8, 9], bytes_)),
                         [[1, 2, 3, 4], [4, 3, 2, 1], [2, 0, 1, 0], [HALF + 3, 1, 0, TOP - 2]])

    def test_of_what_pack_answered(self):
        dice = random.Random(4)
        for codes in some_orders():
            rows = [[dice.choice(SIDES) for f in range(4)] for each in range(9)]
            packed = ask(*[pack(codes, row) for row in rows])
            fields = [(code - 1) % 4 for code in codes]
            wanted = [[row[f] if f in fields else 0 for f in range(4)] for row in rows]
            self.assertEqual(ask(*[unpack(codes, bytes_) for bytes_ in packed]), wanted)

    def test_pack_of_what_unpack_answered(self):
        dice = random.Random(6)
        for codes in some_orders():
            bytes_ = [dice.randrange(256) for each in range(8 * len(codes))] + [0] * (32 - 8 * len(codes))
            self.assertEqual(last(pack(codes, last(unpack(codes, bytes_)))), bytes_)

    def test_bytes_behind_the_fields_do_not_matter(self):
        self.assertEqual(last(unpack([2], [0] * 7 + [5] + [255] * 24)), [0, 5, 0, 0])

    def test_refusals(self):
        for codes in WRONG_ORDERS:
            self.assertEqual(last(unpack(codes, [0] * 32)), -1, codes)
        for byte in (-1, 256):
            self.assertEqual(last(unpack([1], [0] * 31 + [byte])), -1)
        for length in (0, 1, 8, 31, 33, 64, 10000):
            self.assertEqual(ask(unpack([1], [0] * length), unpack([], [0] * length)), [-1, -1], length)


if __name__ == "__main__":
    unittest.main()
