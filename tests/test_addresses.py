"""The instructions 50 to 77: sums of 18 bits into A, B and X, and memory behind A1 to A7."""

import unittest

from tests.helper import (DATA, NOTHING, ONES18, ONES60, after, begin, below, load, look, negative, one, run, told, two,
                          word)

TOP18 = 2 ** 17
HIGH = 0o12345670123450000000


def extended(value):
    """An 18-bit number in 60 bits, as the document says it."""
    return value if value < TOP18 else ONES60 - (ONES18 - value)


def x_of(instruction, x=None, b=None, a0=0):
    return after([instruction], x=x, b=b, a0=a0).x[6]


class Sums(unittest.TestCase):
    """70 to 77 with i 6: each sum by its last digit, told in 60 bits."""

    def check(self, left, right, total, difference):
        """left + right and left - right, in every instruction that can have such."""
        b = {3: left, 4: right}
        x = {2: HIGH | left}
        self.assertEqual(x_of(two(0o70, 6, 0, right), a0=left), extended(total))
        self.assertEqual(x_of(two(0o71, 6, 3, right), b=b), extended(total))
        self.assertEqual(x_of(two(0o72, 6, 2, right), x=x), extended(total))
        self.assertEqual(x_of(one(0o73, 6, 2, 4), x=x, b=b), extended(total))
        self.assertEqual(x_of(one(0o74, 6, 0, 4), b=b, a0=left), extended(total))
        self.assertEqual(x_of(one(0o75, 6, 0, 4), b=b, a0=left), extended(difference))
        self.assertEqual(x_of(one(0o76, 6, 3, 4), b=b), extended(total))
        self.assertEqual(x_of(one(0o77, 6, 3, 4), b=b), extended(difference))

    def test_ordinary(self):
        self.check(5, 7, 12, below(2))
        self.check(7, 5, 12, 2)
        self.check(below(5), 7, 2, below(12))
        self.check(5, below(7), below(2), 12)
        self.check(below(5), below(7), below(12), 2)

    def test_zeros(self):
        self.check(0, 0, 0, 0)
        self.check(0, ONES18, 0, 0)
        self.check(ONES18, 0, 0, ONES18)
        self.check(ONES18, ONES18, ONES18, 0)
        self.check(9, 0, 9, 9)
        self.check(9, ONES18, 9, 9)
        self.check(0, 9, 9, below(9))
        self.check(ONES18, 9, 9, below(9))

    def test_results_of_0(self):
        self.check(9, 9, 18, 0)
        self.check(9, below(9), 0, 18)
        self.check(below(9), 9, 0, below(18))

    def test_beyond_18_bits(self):
        self.check(TOP18 - 1, 1, TOP18, TOP18 - 2)
        self.check(TOP18, 1, TOP18 + 1, TOP18 - 1)
        self.check(TOP18 - 1, TOP18 - 1, ONES18 - 1, 0)
        self.check(TOP18, TOP18, 1, 0)

    def test_all_ones_in_60_bits(self):
        self.assertEqual(x_of(one(0o76, 6, 3, 4), b={3: ONES18, 4: ONES18}), ONES60)
        self.assertEqual(x_of(two(0o71, 6, 0, ONES18 - 1)), negative(1))
        self.assertEqual(x_of(two(0o71, 6, 0, TOP18)), ONES60 - (TOP18 - 1))
        self.assertEqual(x_of(two(0o71, 6, 0, TOP18 - 1)), TOP18 - 1)

    def test_xs_lower_18_bits(self):
        self.assertEqual(x_of(two(0o72, 6, 2, 1), x={2: ONES60}), 1)
        self.assertEqual(x_of(two(0o72, 6, 2, 0), x={2: 2 ** 18}), 0)
        self.assertEqual(x_of(two(0o72, 6, 2, 0), x={2: 2 ** 59 + TOP18}), extended(TOP18))

    def test_b0_is_0(self):
        self.assertEqual(x_of(two(0o71, 6, 0, 55)), 55)
        self.assertEqual(x_of(one(0o73, 6, 2, 0), x={2: 55}), 55)
        self.assertEqual(x_of(one(0o77, 6, 0, 3), b={3: 55}), negative(55))

    def test_every_x_may_be_set(self):
        for i in range(8):
            state = after([two(0o71, i, 0, 55)], x={n: 1000 + n for n in range(8)})
            self.assertEqual(state.x, [55 if n == i else 1000 + n for n in range(8)])

    def test_an_x_set_from_itself(self):
        self.assertEqual(after([two(0o72, 4, 4, 1)], x={4: 2 ** 40 + 5}).x[4], 6)


class SetB(unittest.TestCase):
    """60 to 67."""

    def cases(self, i):
        return (two(0o60, i, 0, 3), two(0o61, i, 3, 3), two(0o62, i, 2, 3), one(0o63, i, 2, 3), one(0o64, i, 0, 3),
                one(0o65, i, 0, 3), one(0o66, i, 3, 4), one(0o67, i, 3, 4))

    EXPECTED = (1003, 13, 2003, 2010, 1010, 990, 30, below(10))

    def test_each(self):
        for i in range(1, 8):
            for instruction, value in zip(self.cases(i), self.EXPECTED):
                state = after([instruction], x={2: HIGH | 2000}, b={3: 10, 4: 20}, a0=1000)
                before = {3: 10, 4: 20}
                before[i] = value
                self.assertEqual(state.b, [before.get(n, 0) for n in range(8)])

    def test_b0_stays_0(self):
        for instruction in self.cases(0):
            state = after([instruction], x={2: HIGH | 2000}, b={3: 10, 4: 20}, a0=1000)
            self.assertEqual(state.b, [0, 0, 0, 10, 20, 0, 0, 0])

    def test_a_b_set_from_itself(self):
        self.assertEqual(after([two(0o61, 3, 3, 1)], b={3: ONES18 - 1}).b[3], 0)
        self.assertEqual(after([one(0o66, 3, 3, 3)], b={3: 21}).b[3], 42)
        self.assertEqual(after([one(0o67, 3, 3, 3)], b={3: 21}).b[3], 0)

    def test_all_ones(self):
        self.assertEqual(after([one(0o66, 5, 3, 4)], b={3: ONES18, 4: ONES18}).b[5], ONES18)
        self.assertEqual(after([one(0o67, 5, 3, 0)], b={3: ONES18}).b[5], ONES18)

    def test_memory_and_x_are_left_alone(self):
        for i in range(8):
            state = after([two(0o61, i, 0, 20000)], x={n: 1000 + n for n in range(8)}, memory={20000: 77})
            self.assertEqual(state.x, [1000 + n for n in range(8)])


class SetA(unittest.TestCase):
    """50 to 57."""

    X = {n: 1000 + n for n in range(8)}

    def cases(self, i):
        return (two(0o50, i, 0, 10), two(0o51, i, 3, 10), two(0o52, i, 2, 10), one(0o53, i, 2, 3), one(0o54, i, 0, 3),
                one(0o55, i, 0, 3), one(0o56, i, 3, 4), one(0o57, i, 3, 4))

    EXPECTED = (20010, 10010, 1012, 11002, 30000, 10000, 13000, 7000)

    def test_1_to_5_fetch(self):
        for i in range(1, 6):
            for instruction, address in zip(self.cases(i), self.EXPECTED):
                with self.subTest(instruction=instruction):
                    state = after([instruction], x=self.X, b={3: 10000, 4: 3000}, a0=20000, memory={address: 77})
                    self.assertEqual(state.a[i], address)
                    self.assertEqual(state.x, [77 if n == i else 1000 + n for n in range(8)])

    def test_6_and_7_store(self):
        for i in (6, 7):
            for instruction, address in zip(self.cases(i), self.EXPECTED):
                with self.subTest(instruction=instruction):
                    fetch = two(0o51, 5, 0, address)
                    state = after([instruction, fetch], x=self.X, b={3: 10000, 4: 3000}, a0=20000, memory={address: 77})
                    self.assertEqual(state.x, [1000 + (i if n == 5 else n) for n in range(8)])
                    if i == 6:
                        self.assertEqual(state.a[6], address)

    def test_0_touches_no_memory(self):
        for instruction, address in zip(self.cases(0), self.EXPECTED):
            state = after([instruction, two(0o51, 5, 0, address)], x=self.X, b={3: 10000, 4: 3000}, a0=20000,
                          memory={address: 77})
            self.assertEqual(state.a[0], address)
            self.assertEqual(state.x, [77 if n == 5 else 1000 + n for n in range(8)])

    def test_a0_may_be_any(self):
        for address in (65535, 65536, TOP18, ONES18 - 1):
            state = after([two(0o51, 0, 0, address)], x=self.X)
            self.assertEqual(state.a[0], address)
            self.assertEqual(state.x, [1000 + n for n in range(8)])
        self.assertEqual(after([one(0o56, 0, 3, 3)], b={3: ONES18}).a[0], ONES18)

    def test_the_first_and_the_last_word(self):
        for address in (0, 65535):
            words = [word(two(0o51, 1, 0, address), one(0o10, 6, 1, 1), one(0o36, 6, 6, 6)), word(two(0o51, 6, 0, address))]
            expected = words[0] if address == 0 else 21
            doubled = 2 * expected if 2 * expected < ONES60 else 2 * expected - ONES60
            result = told(begin(), load(65535, [21]), load(0, words), run(9), look(address, 1))
            self.assertEqual(result[4], [0, doubled])

    def test_an_address_that_there_is_not(self):
        for i in range(1, 8):
            for address in (65536, 65537, TOP18, ONES18 - 1):
                code = [word(NOTHING, two(0o51, i, 0, address))]
                result = told(begin(), load(0, code), load(1, [5] * 10), run(9), run(9), look(0, 65536))
                self.assertEqual(result[3:5], [[1], [0]])
                self.assertEqual(result[5], [0] + code + [5] * 10 + [0] * (65536 - 11))

    def test_all_ones_is_no_address(self):
        # B3 + B3 of -0 is -0, the last of all addresses; B0 + -0 is 0, the first.
        code = [word(two(0o51, 1, 0, 9), two(0o62, 3, 1, ONES18)), word(one(0o56, 2, 3, 3))]
        result = told(begin(), load(0, code), load(9, [ONES60]), run(9), run(9))
        self.assertEqual(result[3:], [[2], [0]])
        self.assertEqual(after([two(0o51, 4, 0, ONES18)], x={4: 3}).a[4], 0)

    def test_an_a_set_from_itself(self):
        state = after([two(0o50, 3, 3, 1)], memory={})
        self.assertEqual(state.a[3], DATA + 3 + 2 + 1)

    def test_an_address_from_the_x_that_is_fetched(self):
        self.assertEqual(after([two(0o52, 4, 4, 0)], x={4: 20000}, memory={20000: 99}).x[4], 99)
        self.assertEqual(after([two(0o52, 6, 6, 0), two(0o51, 4, 0, 20000)], x={6: 20000}).x[4], 20000)


if __name__ == "__main__":
    unittest.main()
