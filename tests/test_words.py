"""The instructions 10 to 23, 36, 37, 43, 46 and 47: words as bits and as whole numbers."""

import unittest

from tests.helper import ONES18, ONES60, after, below, negative, one, x_after

P = 0o12345670123456701234
Q = 0o70707070123443211234
TOP = 2 ** 59


class Bits(unittest.TestCase):
    """10 to 17."""

    def test_each(self):
        expected = {
            0o10: 0o12345670123456701234,
            0o11: 0o10305070123442201234,
            0o12: 0o72747670123457711234,
            0o13: 0o62442600000015510000,
            0o14: 0o07070707654334566543,
            0o15: 0o02040600000014500000,
            0o16: 0o17375777777776767777,
            0o17: 0o15335177777762267777,
        }
        for fm, value in expected.items():
            with self.subTest(fm=oct(fm)):
                self.assertEqual(x_after(fm, P, Q), value)

    def test_zeros(self):
        expected = {
            0o10: [0, 0, ONES60, ONES60],
            0o11: [0, 0, 0, ONES60],
            0o12: [0, ONES60, ONES60, ONES60],
            0o13: [0, ONES60, ONES60, 0],
            0o14: [ONES60, 0, ONES60, 0],
            0o15: [0, 0, ONES60, 0],
            0o16: [ONES60, 0, ONES60, ONES60],
            0o17: [ONES60, 0, 0, ONES60],
        }
        pairs = [(0, 0), (0, ONES60), (ONES60, 0), (ONES60, ONES60)]
        for fm, values in expected.items():
            with self.subTest(fm=oct(fm)):
                self.assertEqual([x_after(fm, left, right) for left, right in pairs], values)

    def test_only_xi_changes(self):
        x = {n: 1000 + n for n in range(8)}
        for fm in range(0o10, 0o20):
            state = after([one(fm, 3, 4, 5)], x=x)
            self.assertEqual([state.x[n] for n in (0, 1, 2, 4, 5, 6, 7)], [1000 + n for n in (0, 1, 2, 4, 5, 6, 7)])

    def test_i_may_be_j_or_k(self):
        self.assertEqual(after([one(0o15, 3, 3, 4)], x={3: 7, 4: 2}).x[3], 5)
        self.assertEqual(after([one(0o15, 3, 4, 3)], x={3: 2, 4: 7}).x[3], 5)
        self.assertEqual(after([one(0o14, 3, 0, 3)], x={3: 2}).x[3], ONES60 - 2)


class ShiftsByJk(unittest.TestCase):
    """20 and 21."""

    def shifted(self, fm, n, value):
        return after([one(fm, 5, n >> 3, n & 7)], x={5: value, 1: 77, 2: 88}).x[5]

    def test_left_around(self):
        self.assertEqual(self.shifted(0o20, 3, P), 0o23456701234567012341)
        self.assertEqual(self.shifted(0o20, 1, TOP + 2), 5)
        self.assertEqual(self.shifted(0o20, 30, P), 0o34567012341234567012)

    def test_left_edges(self):
        self.assertEqual(self.shifted(0o20, 0, P), P)
        self.assertEqual(self.shifted(0o20, 59, P), P >> 1)
        self.assertEqual(self.shifted(0o20, 59, 1), TOP)
        self.assertEqual(self.shifted(0o20, 60, P), P)
        self.assertEqual(self.shifted(0o20, 63, P), 0o23456701234567012341)
        self.assertEqual(self.shifted(0o20, 63, ONES60), ONES60)
        self.assertEqual(self.shifted(0o20, 17, 0), 0)

    def test_right_with_the_highest_bit(self):
        self.assertEqual(self.shifted(0o21, 3, P), 0o01234567012345670123)
        self.assertEqual(self.shifted(0o21, 3, 0o41234567012345670123), 0o74123456701234567012)

    def test_right_edges(self):
        for value, sign in ((P, 0), (Q, ONES60), (TOP, ONES60), (TOP - 1, 0)):
            self.assertEqual(self.shifted(0o21, 0, value), value)
            self.assertEqual(self.shifted(0o21, 59, value), sign)
            self.assertEqual(self.shifted(0o21, 60, value), sign)
            self.assertEqual(self.shifted(0o21, 63, value), sign)
        self.assertEqual(self.shifted(0o21, 58, TOP - 1), 1)
        self.assertEqual(self.shifted(0o21, 58, TOP), ONES60 - 1)


class ShiftsByB(unittest.TestCase):
    """22 and 23."""

    def shifted(self, fm, n, value):
        state = after([one(fm, 6, 3, 4)], x={4: value, 6: 99}, b={3: n})
        self.assertEqual(state.x[4], value)
        self.assertEqual(state.b[3], n)
        return state.x[6]

    def test_left_around(self):
        for fm, n in ((0o22, 3), (0o23, below(3)), (0o22, 64 + 3), (0o23, below(64 + 3)), (0o22, 63), (0o23, below(63)),
                      (0o22, 2 ** 17 - 64 + 3), (0o23, below(2 ** 17 - 64 + 3)), (0o22, 4096 + 3),
                      (0o22, 2 ** 17 - 1), (0o23, 2 ** 17)):
            with self.subTest(fm=oct(fm), n=n):
                self.assertEqual(self.shifted(fm, n, P), 0o23456701234567012341)

    def test_left_by_59_60_and_64(self):
        self.assertEqual(self.shifted(0o22, 59, 1), TOP)
        self.assertEqual(self.shifted(0o22, 60, P), P)
        self.assertEqual(self.shifted(0o22, 64, P), P)
        self.assertEqual(self.shifted(0o23, below(59), 1), TOP)
        self.assertEqual(self.shifted(0o23, below(60), P), P)
        self.assertEqual(self.shifted(0o23, below(64), P), P)

    def test_right_with_the_highest_bit(self):
        for fm, n in ((0o22, below(3)), (0o23, 3), (0o22, below(4096 + 3)), (0o23, 4096 + 3),
                      (0o22, below(2 ** 17 - 4096 + 3)), (0o23, 2 ** 17 - 4096 + 3)):
            with self.subTest(fm=oct(fm), n=n):
                self.assertEqual(self.shifted(fm, n, P), 0o01234567012345670123)
                self.assertEqual(self.shifted(fm, n, 0o41234567012345670123), 0o74123456701234567012)

    def test_right_by_many(self):
        for n in (59, 60, 63, 64, 67, 128, 4095, 2 ** 17 - 1):
            for fm, shift in ((0o22, below(n)), (0o23, n)):
                with self.subTest(fm=oct(fm), n=n):
                    self.assertEqual(self.shifted(fm, shift, P), 0)
                    self.assertEqual(self.shifted(fm, shift, Q), ONES60)

    def test_by_both_zeros(self):
        for fm in (0o22, 0o23):
            for n in (0, ONES18):
                for value in (P, Q, 0, ONES60):
                    self.assertEqual(self.shifted(fm, n, value), value)

    def test_by_b0(self):
        self.assertEqual(after([one(0o22, 6, 0, 4)], x={4: Q}).x[6], Q)
        self.assertEqual(after([one(0o23, 6, 0, 4)], x={4: Q}).x[6], Q)


class WholeSums(unittest.TestCase):
    """36 and 37."""

    def test_ordinary(self):
        self.assertEqual(x_after(0o36, 5, 7), 12)
        self.assertEqual(x_after(0o37, 5, 7), negative(2))
        self.assertEqual(x_after(0o37, 7, 5), 2)
        self.assertEqual(x_after(0o36, negative(5), 7), 2)
        self.assertEqual(x_after(0o36, 5, negative(7)), negative(2))
        self.assertEqual(x_after(0o36, negative(5), negative(7)), negative(12))
        self.assertEqual(x_after(0o37, negative(5), 7), negative(12))
        self.assertEqual(x_after(0o37, negative(5), negative(7)), 2)

    def test_zeros(self):
        pairs = [(0, 0), (0, ONES60), (ONES60, 0), (ONES60, ONES60)]
        self.assertEqual([x_after(0o36, *pair) for pair in pairs], [0, 0, 0, ONES60])
        self.assertEqual([x_after(0o37, *pair) for pair in pairs], [0, 0, ONES60, 0])

    def test_results_of_0(self):
        self.assertEqual(x_after(0o36, 9, negative(9)), 0)
        self.assertEqual(x_after(0o36, negative(9), 9), 0)
        self.assertEqual(x_after(0o37, 9, 9), 0)
        self.assertEqual(x_after(0o37, negative(9), negative(9)), 0)

    def test_with_a_zero(self):
        for zero in (0, ONES60):
            self.assertEqual(x_after(0o36, 9, zero), 9)
            self.assertEqual(x_after(0o36, zero, negative(9)), negative(9))
            self.assertEqual(x_after(0o37, 9, zero), 9)
            self.assertEqual(x_after(0o37, zero, 9), negative(9))

    def test_beyond_60_bits(self):
        self.assertEqual(x_after(0o36, TOP - 1, 1), TOP)
        self.assertEqual(x_after(0o36, TOP - 1, TOP - 1), ONES60 - 1)
        self.assertEqual(x_after(0o36, TOP, TOP), 1)
        self.assertEqual(x_after(0o37, TOP, 1), TOP - 1)


class Others(unittest.TestCase):
    """43, 46 and 47."""

    def mask(self, n):
        return after([one(0o43, 6, n >> 3, n & 7)], x={6: 0o123}).x[6]

    def test_43(self):
        self.assertEqual(self.mask(0), 0)
        self.assertEqual(self.mask(1), TOP)
        self.assertEqual(self.mask(12), 0o77770000000000000000)
        self.assertEqual(self.mask(59), ONES60 - 1)
        for n in (60, 61, 62, 63):
            self.assertEqual(self.mask(n), ONES60)

    def test_46(self):
        x = {n: 1000 + n for n in range(8)}
        b = {n: 50 + n for n in range(1, 8)}
        before = after([], x=x, b=b)
        behind = after([one(0o46, i, 7 - i, (i + 3) % 8) for i in range(8)], x=x, b=b)
        self.assertEqual(behind.x, [1000 + n for n in range(8)])
        self.assertEqual((before.x, before.a, before.b), (behind.x, behind.a, behind.b))

    def test_47(self):
        for value, ones in ((0, 0), (ONES60, 60), (1, 1), (TOP, 1), (ONES60 - 1, 59), (0o12345670, 12), (P, 29)):
            self.assertEqual(x_after(0o47, 0o777, value), ones)


if __name__ == "__main__":
    unittest.main()
