"""The instructions 24 to 27, 30 to 35, 40 to 42, 44 and 45: numbers with exponents."""

import unittest

from tests.helper import INDEFINITE, INFINITE, ONES18, ONES60, after, below, negative, number, one, x_after

ALL = 2 ** 48 - 1
TOP = 2 ** 47
MINUS_INFINITE = negative(INFINITE)
ONE = 0o17204000000000000000
ZEROS = (0, ONES60, number(0, 5), negative(number(0, 5)), number(0, 1022), number(0, -1))
INFINITES = (INFINITE, INFINITE + 5)
INDEFINITES = (INDEFINITE, INDEFINITE + 5, negative(INDEFINITE), negative(INDEFINITE + 5))
ORDINARY = (number(5, 3), ONE, number(ALL, 1022), number(1, -1023))

SUM_NUMBERS = (0o30, 0o32, 0o34)
DIFFERENCE_NUMBERS = (0o31, 0o33, 0o35)
PRODUCT_NUMBERS = (0o40, 0o42, 0o41)


class Reading(unittest.TestCase):
    def test_words_as_the_document_reads_them(self):
        self.assertEqual(number(1, 0), 0o20000000000000000001)
        self.assertEqual(number(1, 1), 0o20010000000000000001)
        self.assertEqual(number(1, -1), 0o17760000000000000001)
        self.assertEqual(number(1, 1022), 0o37760000000000000001)
        self.assertEqual(number(1, -1023), 0o00000000000000000001)
        self.assertEqual(number(1, 0, True), 0o57777777777777777776)
        self.assertEqual(number(TOP, -47), ONE)


class Normalizing(unittest.TestCase):
    """24 and 25."""

    def normalized(self, fm, value):
        state = after([one(fm, 6, 3, 4)], x={4: value}, b={3: 0o1234})
        self.assertEqual(state.x[4], value)
        return (state.x[6], state.b[3])

    def test_ordinary(self):
        self.assertEqual(self.normalized(0o24, number(1, 0)), (ONE, 47))
        self.assertEqual(self.normalized(0o24, number(5, 3, True)), (number(5 << 45, -42, True), 45))
        self.assertEqual(self.normalized(0o24, number(1, 47)), (number(TOP, 0), 47))
        self.assertEqual(self.normalized(0o24, number(1, 46)), (number(TOP, -1), 47))
        self.assertEqual(self.normalized(0o24, number(2 ** 46 + 1, 9)), (number(TOP + 2, 8), 1))

    def test_with_a_1_first(self):
        self.assertEqual(self.normalized(0o25, number(1, 0)), (number(TOP + 2 ** 46, -47), 47))
        self.assertEqual(self.normalized(0o25, number(5, 3, True)), (number((5 << 45) + 2 ** 44, -42, True), 45))
        self.assertEqual(self.normalized(0o25, number(2 ** 46 + 1, 9)), (number(TOP + 3, 8), 1))

    def test_n_0(self):
        for fm in (0o24, 0o25):
            for value in (number(TOP, 9), number(TOP + 5, -1023), number(ALL, 1022, True)):
                self.assertEqual(self.normalized(fm, value), (value, 0))

    def test_c_0(self):
        for fm in (0o24, 0o25):
            for value in ZEROS:
                self.assertEqual(self.normalized(fm, value), (0, 48))

    def test_infinite_and_indefinite_stay(self):
        for fm in (0o24, 0o25):
            for value in INFINITES + tuple(map(negative, INFINITES)) + INDEFINITES:
                self.assertEqual(self.normalized(fm, value), (value, 0))

    def test_e_below_what_can_be_written(self):
        for fm, c in ((0o24, TOP), (0o25, TOP + 2 ** 46)):
            for minus in (False, True):
                self.assertEqual(self.normalized(fm, number(1, -976, minus)), (number(c, -1023, minus), 47))
                self.assertEqual(self.normalized(fm, number(1, -977, minus)), (0, 47))
                self.assertEqual(self.normalized(fm, number(1, -1023, minus)), (0, 47))

    def test_b0_stays_0(self):
        for fm in (0o24, 0o25):
            for value in (0, number(1, 0)):
                self.assertEqual(after([one(fm, 6, 0, 4)], x={4: value}).b, [0] * 8)
        self.assertEqual(after([one(0o24, 6, 0, 4)], x={4: number(1, 0)}).x[6], ONE)

    def test_i_may_be_k(self):
        state = after([one(0o24, 4, 3, 4)], x={4: number(1, 0)})
        self.assertEqual((state.x[4], state.b[3]), (ONE, 47))
        state = after([one(0o25, 4, 3, 4)], x={4: number(1, 0)})
        self.assertEqual((state.x[4], state.b[3]), (number(TOP + 2 ** 46, -47), 47))


class Unpacking(unittest.TestCase):
    """26."""

    def check(self, value, c, e):
        state = after([one(0o26, 6, 3, 4)], x={4: value}, b={3: 0o1234})
        self.assertEqual((state.x[6], state.b[3]), (c, e))
        state = after([one(0o26, 4, 3, 4)], x={4: value}, b={3: 0o1234})
        self.assertEqual((state.x[4], state.b[3]), (c, e))

    def test_above_0(self):
        self.check(number(5, 0), 5, 0)
        self.check(number(5, 3), 5, 3)
        self.check(number(ALL, 1022), ALL, 1022)
        self.check(number(5, -1), 5, below(1))
        self.check(number(5, -1023), 5, below(1023))

    def test_below_0(self):
        self.check(number(5, 0, True), negative(5), 0)
        self.check(number(5, 3, True), negative(5), 3)
        self.check(number(5, -1, True), negative(5), below(1))
        self.check(number(ALL, -1023, True), negative(ALL), below(1023))

    def test_zeros(self):
        self.check(0, 0, below(1023))
        self.check(ONES60, ONES60, below(1023))
        self.check(number(0, 7), 0, 7)

    def test_infinite_and_indefinite(self):
        self.check(INFINITE + 5, 5, 1023)
        self.check(negative(INFINITE + 5), negative(5), 1023)
        self.check(INDEFINITE + 5, 5, ONES18)
        self.check(negative(INDEFINITE + 5), negative(5), ONES18)

    def test_b0_stays_0(self):
        state = after([one(0o26, 6, 0, 4)], x={4: number(5, 3)})
        self.assertEqual((state.x[6], state.b), (5, [0] * 8))


class Packing(unittest.TestCase):
    """27."""

    def packed(self, value, e):
        state = after([one(0o27, 6, 3, 4)], x={4: value}, b={3: e})
        self.assertEqual((state.x[4], state.b[3]), (value, e))
        return state.x[6]

    def test_above_0(self):
        self.assertEqual(self.packed(5, 0), number(5, 0))
        self.assertEqual(self.packed(5, 3), number(5, 3))
        self.assertEqual(self.packed(5, below(1)), number(5, -1))
        self.assertEqual(self.packed(5, below(1023)), number(5, -1023))
        self.assertEqual(self.packed(5, 1022), number(5, 1022))

    def test_below_0(self):
        self.assertEqual(self.packed(negative(5), 3), number(5, 3, True))
        self.assertEqual(self.packed(negative(5), below(1)), number(5, -1, True))

    def test_the_lower_48_bits_alone(self):
        self.assertEqual(self.packed(number(5, 9), 3), number(5, 3))
        self.assertEqual(self.packed(number(5, 9, True), 3), number(5, 3, True))
        self.assertEqual(self.packed(2 ** 59 - 1, 3), number(ALL, 3))
        self.assertEqual(self.packed(2 ** 59, 3), number(ALL, 3, True))

    def test_the_lower_11_bits_of_b_alone(self):
        self.assertEqual(self.packed(5, 0o012345), (0o0345 << 48) + 5)
        self.assertEqual(self.packed(5, 0o770003), number(5, 3))

    def test_infinite_indefinite_and_zeros_are_not_mended(self):
        self.assertEqual(self.packed(5, 1023), INFINITE + 5)
        self.assertEqual(self.packed(5, ONES18), INDEFINITE + 5)
        self.assertEqual(self.packed(negative(5), ONES18), negative(INDEFINITE + 5))
        self.assertEqual(self.packed(0, 3), number(0, 3))
        self.assertEqual(self.packed(ONES60, 3), negative(number(0, 3)))

    def test_b0(self):
        self.assertEqual(after([one(0o27, 6, 0, 4)], x={4: 5}).x[6], number(5, 0))


class Halves(unittest.TestCase):
    def check(self, numbers, left, right, upper, lower, rounded):
        found = tuple(x_after(fm, left, right) for fm in numbers)
        self.assertEqual(found, (upper, lower, rounded), (oct(left), oct(right)))

    def check_sum(self, left, right, upper, lower, rounded):
        """The halves of left + right, and all that follows from them by signs and order."""
        mirrored = [negative(value) if value else 0 for value in (upper, lower, rounded)]
        self.check(SUM_NUMBERS, left, right, upper, lower, rounded)
        self.check(SUM_NUMBERS, right, left, upper, lower, rounded)
        self.check(SUM_NUMBERS, negative(left), negative(right), *mirrored)
        self.check(DIFFERENCE_NUMBERS, left, negative(right), upper, lower, rounded)
        self.check(DIFFERENCE_NUMBERS, negative(left), right, *mirrored)

    def check_product(self, left, right, upper, lower, rounded):
        mirrored = [negative(value) if value else 0 for value in (upper, lower, rounded)]
        self.check(PRODUCT_NUMBERS, left, right, upper, lower, rounded)
        self.check(PRODUCT_NUMBERS, right, left, upper, lower, rounded)
        self.check(PRODUCT_NUMBERS, negative(left), negative(right), upper, lower, rounded)
        self.check(PRODUCT_NUMBERS, negative(left), right, *mirrored)
        self.check(PRODUCT_NUMBERS, left, negative(right), *mirrored)


class Sums(Halves):
    """30 to 35."""

    def test_ordinary(self):
        self.check_sum(number(5, 0), number(7, 0), number(12, 0), 0, number(12, 0))
        self.check_sum(number(5, 0), number(7, 0, True), number(2, 0, True), 0, number(2, 0, True))
        self.check_sum(number(4, -1), number(1, 0), number(3, 0), 0, number(3, 0))
        self.check_sum(number(5, -4), number(7, -4), number(12, -4), 0, number(12, -4))

    def test_nothing_is_normalized(self):
        self.check_sum(number(TOP + 1, 9), number(TOP, 9, True), number(1, 9), 0, number(1, 9))

    def test_sums_of_0(self):
        self.check_sum(number(5, 3), number(5, 3, True), 0, 0, 0)
        for left in ZEROS:
            for right in ZEROS:
                self.check(SUM_NUMBERS, left, right, 0, 0, 0)
                self.check(DIFFERENCE_NUMBERS, left, right, 0, 0, 0)

    def test_with_zeros(self):
        for zero in (0, ONES60):
            self.check_sum(number(5, 3), zero, number(5, 3), 0, number(5, 3))
        self.check_sum(number(5, 0), number(0, 10), 0, number(5 * 2 ** 38, -38), 0)
        self.check_sum(number(5, 0), number(0, 100), 0, 0, 0)
        self.check_sum(number(1, -48), number(0, 0), 0, number(1, -48), 0)

    def test_a_bit_below(self):
        self.check_sum(number(TOP, 0), number(1, -1), number(TOP, 0), number(TOP, -48), number(TOP + 1, 0))
        self.check_sum(number(TOP, 0), number(1, -2), number(TOP, 0), number(2 ** 46, -48), number(TOP, 0))
        self.check_sum(number(TOP, 0), number(3, -2), number(TOP, 0), number(3 * 2 ** 46, -48), number(TOP + 1, 0))

    def test_the_sign_is_the_wholes(self):
        self.check_sum(number(5, 0, True), number(1, -1), number(4, 0, True), number(TOP, -48, True),
                       number(5, 0, True))

    def test_divided_towards_0(self):
        self.check_sum(number(1, 0), number(1, -48), number(1, 0), number(1, -48), number(1, 0))
        self.check_sum(number(1, 0), number(1, -49), number(1, 0), 0, number(1, 0))
        self.check_sum(number(1, 0), number(1, -49, True), number(1, 0), 0, number(1, 0))
        self.check_sum(number(1, 0), number(3, -49, True), 0, number(ALL, -48), number(1, 0))
        self.check_sum(number(1, 1022), number(ALL, -1023), number(1, 1022), 0, number(1, 1022))

    def test_97_bits(self):
        self.check_sum(number(ALL, 0), number(ALL, 0), number(ALL, 1), 0, number(ALL, 1))
        self.check_sum(number(ALL, 0), number(ALL - 1, 0), number(ALL - 1, 1), number(TOP, -47), number(ALL, 1))
        self.check_sum(number(TOP, 7), number(TOP, 7), number(TOP, 8), 0, number(TOP, 8))
        self.check_sum(number(ALL, 0), number(ALL, -1), number(3 * 2 ** 46 - 1, 1), number(2 ** 46, -47),
                       number(3 * 2 ** 46 - 1, 1))

    def test_97_bits_across_e_0(self):
        self.check_sum(number(TOP, -1), number(TOP, -1), number(TOP, 0), 0, number(TOP, 0))

    def test_a_rounded_half_that_comes_to_2_48(self):
        self.check_sum(number(ALL, 0), number(ALL, -48), number(ALL, 0), number(ALL, -48), number(TOP, 1))
        self.check_sum(number(ALL, 0), number(TOP, -48), number(ALL, 0), number(TOP, -48), number(TOP, 1))
        self.check_sum(number(ALL, 0), number(TOP - 1, -48), number(ALL, 0), number(TOP - 1, -48), number(ALL, 0))
        self.check_sum(number(ALL, -1), number(1, -2), number(ALL, -1), number(TOP, -49), number(TOP, 0))

    def test_e_above(self):
        self.check_sum(number(1, 1022), number(1, 1022), number(2, 1022), 0, number(2, 1022))
        self.check_sum(number(TOP, 1022), number(TOP, 1022), INFINITE, 0, INFINITE)
        self.check_sum(number(ALL, 1022), number(ALL - 1, 1022), INFINITE, number(TOP, 975), INFINITE)
        self.check_sum(number(ALL, 1022), number(1, 1021), number(ALL, 1022), number(TOP, 974), INFINITE)

    def test_e_below(self):
        self.check_sum(number(1, -975), number(1, -976), number(1, -975), number(TOP, -1023), number(2, -975))
        self.check_sum(number(1, -976), number(1, -977), number(1, -976), 0, number(2, -976))
        self.check_sum(number(1, -1023), number(1, -1023), number(2, -1023), 0, number(2, -1023))
        self.check_sum(number(ALL, -976), number(ALL - 1, -976), number(ALL - 1, -975), number(TOP, -1023),
                       number(ALL, -975))

    def test_indefinite(self):
        others = ORDINARY + ZEROS + INFINITES + (MINUS_INFINITE,) + INDEFINITES
        for fm in SUM_NUMBERS + DIFFERENCE_NUMBERS:
            for value in INDEFINITES:
                for other in others:
                    self.assertEqual(x_after(fm, value, other), INDEFINITE)
                    self.assertEqual(x_after(fm, other, value), INDEFINITE)

    def test_infinite_with_infinite(self):
        for left in INFINITES:
            for right in INFINITES:
                for fm in SUM_NUMBERS:
                    self.assertEqual(x_after(fm, left, right), INFINITE)
                    self.assertEqual(x_after(fm, negative(left), negative(right)), MINUS_INFINITE)
                    self.assertEqual(x_after(fm, left, negative(right)), INDEFINITE)
                    self.assertEqual(x_after(fm, negative(left), right), INDEFINITE)
                for fm in DIFFERENCE_NUMBERS:
                    self.assertEqual(x_after(fm, left, right), INDEFINITE)
                    self.assertEqual(x_after(fm, negative(left), negative(right)), INDEFINITE)
                    self.assertEqual(x_after(fm, left, negative(right)), INFINITE)
                    self.assertEqual(x_after(fm, negative(left), right), MINUS_INFINITE)

    def test_infinite_with_others(self):
        for value in INFINITES:
            for other in ORDINARY + tuple(map(negative, ORDINARY)) + ZEROS:
                for fm in SUM_NUMBERS:
                    self.assertEqual(x_after(fm, value, other), INFINITE)
                    self.assertEqual(x_after(fm, other, value), INFINITE)
                    self.assertEqual(x_after(fm, negative(value), other), MINUS_INFINITE)
                    self.assertEqual(x_after(fm, other, negative(value)), MINUS_INFINITE)
                for fm in DIFFERENCE_NUMBERS:
                    self.assertEqual(x_after(fm, value, other), INFINITE)
                    self.assertEqual(x_after(fm, other, value), MINUS_INFINITE)
                    self.assertEqual(x_after(fm, negative(value), other), MINUS_INFINITE)
                    self.assertEqual(x_after(fm, other, negative(value)), INFINITE)


class Products(Halves):
    """40 to 42."""

    def test_small(self):
        self.check_product(number(3, 0), number(5, 0), 0, number(15, 0), 0)
        self.check_product(number(3, 4), number(5, -9), 0, number(15, -5), 0)
        self.check_product(number(2 ** 24, 1), number(2 ** 24, 2), number(1, 51), 0, number(1, 51))
        self.check_product(number(2 ** 24, 1), number(2 ** 23, 2), 0, number(TOP, 3), number(1, 51))

    def test_both_with_their_highest_bit_but_the_product_without_its_96th(self):
        self.check_product(ONE, ONE, ONE, 0, ONE)
        self.check_product(number(TOP + 1, 0), number(TOP + 1, 0), number(TOP + 2, 47), number(2, -1),
                           number(TOP + 2, 47))
        self.check_product(number(TOP + 1, 0), number(3 * 2 ** 46, 0), number(3 * 2 ** 46 + 1, 47), number(TOP, -1),
                           number(3 * 2 ** 46 + 2, 47))

    def test_both_with_their_highest_bit_and_the_product_with_its_96th(self):
        self.check_product(number(ALL, 0), number(ALL, 0), number(ALL - 1, 48), number(1, 0), number(ALL - 1, 48))
        self.check_product(number(3 * 2 ** 46, 0), number(3 * 2 ** 46, 0), number(9 * 2 ** 44, 48), 0,
                           number(9 * 2 ** 44, 48))

    def test_one_without_its_highest_bit(self):
        self.check_product(number(TOP, 0), number(2 ** 46, 0), number(2 ** 45, 48), 0, number(2 ** 45, 48))
        self.check_product(number(ALL, 0), number(TOP - 1, 0), number(TOP - 2, 48), number(TOP + 1, 0),
                           number(TOP - 1, 48))

    def test_a_rounded_half_that_comes_to_2_48(self):
        self.check_product(number(TOP + 1, 0), number(ALL - 1, 0), number(ALL, 47), number(ALL - 3, -1),
                           number(TOP, 48))

    def test_e_above(self):
        self.check_product(number(ALL, 500), number(ALL, 474), number(ALL - 1, 1022), number(1, 974),
                           number(ALL - 1, 1022))
        self.check_product(number(ALL, 500), number(ALL, 475), INFINITE, number(1, 975), INFINITE)
        self.check_product(number(ALL, 1022), number(ALL, 1022), INFINITE, INFINITE, INFINITE)
        self.check_product(number(TOP + 1, 500), number(ALL - 1, 475), number(ALL, 1022), number(ALL - 3, 974),
                           INFINITE)

    def test_e_below(self):
        self.check_product(number(ALL, -500), number(ALL, -523), number(ALL - 1, -975), number(1, -1023),
                           number(ALL - 1, -975))
        self.check_product(number(ALL, -500), number(ALL, -524), number(ALL - 1, -976), 0, number(ALL - 1, -976))
        self.check_product(number(ALL, -500), number(ALL, -571), number(ALL - 1, -1023), 0, number(ALL - 1, -1023))
        self.check_product(number(ALL, -500), number(ALL, -572), 0, 0, 0)
        self.check_product(number(TOP + 1, -500), number(ALL - 1, -571), 0, 0, number(TOP, -1023))

    def test_products_of_0(self):
        for zero in ZEROS:
            for other in ORDINARY + ZEROS:
                self.check_product(zero, other, 0, 0, 0)

    def test_indefinite(self):
        others = ORDINARY + ZEROS + INFINITES + (MINUS_INFINITE,) + INDEFINITES
        for value in INDEFINITES:
            for other in others:
                self.check(PRODUCT_NUMBERS, value, other, INDEFINITE, INDEFINITE, INDEFINITE)
                self.check(PRODUCT_NUMBERS, other, value, INDEFINITE, INDEFINITE, INDEFINITE)

    def test_infinite_with_0(self):
        for value in INFINITES + (MINUS_INFINITE,):
            for zero in ZEROS:
                self.check(PRODUCT_NUMBERS, value, zero, INDEFINITE, INDEFINITE, INDEFINITE)
                self.check(PRODUCT_NUMBERS, zero, value, INDEFINITE, INDEFINITE, INDEFINITE)

    def test_infinite_with_others(self):
        for value in INFINITES:
            for other in ORDINARY + INFINITES:
                self.check_product(value, other, INFINITE, INFINITE, INFINITE)


class Quotients(unittest.TestCase):
    """44 and 45."""

    def check(self, left, right, plain, rounded):
        found = (x_after(0o44, left, right), x_after(0o45, left, right))
        self.assertEqual(found, (plain, rounded), (oct(left), oct(right)))

    def check_signs(self, left, right, plain, rounded):
        mirrored = [negative(value) if value not in (0, INDEFINITE) else value for value in (plain, rounded)]
        self.check(left, right, plain, rounded)
        self.check(negative(left), negative(right), plain, rounded)
        self.check(negative(left), right, *mirrored)
        self.check(left, negative(right), *mirrored)

    def test_c_not_below(self):
        self.check_signs(ONE, ONE, ONE, ONE)
        self.check_signs(number(6, 10), number(4, -20), number(3 * 2 ** 46, -17), number(3 * 2 ** 46, -17))
        self.check_signs(number(5, 0), number(3, 0), number(5 * 2 ** 47 // 3, -47), number(5 * 2 ** 47 // 3, -47))
        self.check_signs(number(7, 0), number(6, 0), number(164193736414549, -47), number(164193736414549, -47))

    def test_c_below(self):
        self.check_signs(number(TOP, 0), number(3 * 2 ** 46, 0), number(187649984473770, -48),
                         number(187649984473771, -48))
        self.check_signs(number(1, 0), number(3, 0), number(93824992236885, -48), number(93824992236885, -48))
        self.check_signs(number(1, 5), number(4, 2), number(2 ** 46, -45), number(2 ** 46, -45))
        self.check_signs(number(1, 0), number(ALL, 0), number(1, -48), number(1, -48))
        self.check_signs(number(ALL - 1, 0), number(ALL, 0), number(ALL - 1, -48), number(ALL, -48))

    def test_q_above_48_bits(self):
        for left, right in ((7, 2), (5, 2), (ALL, 1), (9, 4)):
            self.check_signs(number(left, 0), number(right, 0), INDEFINITE, INDEFINITE)
        self.check_signs(number(7, 1000), number(2, -1000), INDEFINITE, INDEFINITE)
        self.check_signs(number(7, -1000), number(2, 1000), INDEFINITE, INDEFINITE)

    def test_q_of_2_48_itself(self):
        self.check_signs(number(4, 0), number(2, 0), INDEFINITE, number(TOP, -46))
        self.check_signs(number(2, 5), number(1, 3), INDEFINITE, number(TOP, -44))
        self.check_signs(number(6, 47), number(3, 1), INDEFINITE, number(TOP, 0))
        self.check_signs(number(ALL - 1, 0), number(TOP - 1, 0), INDEFINITE, number(TOP, -46))

    def test_q_just_below_2_48(self):
        self.check_signs(number(ALL, 0), number(TOP, 0), number(ALL, -47), number(ALL, -47))
        self.check_signs(number(ALL - 2, 0), number(TOP - 1, 0), number(ALL - 1, -47), number(ALL, -47))

    def test_e_above(self):
        self.check_signs(number(TOP, 1000), number(TOP, -69), number(TOP, 1022), number(TOP, 1022))
        self.check_signs(number(TOP, 1000), number(TOP, -70), INFINITE, INFINITE)
        self.check_signs(number(4, 1000), number(2, -68), INDEFINITE, number(TOP, 1022))
        self.check_signs(number(4, 1000), number(2, -69), INDEFINITE, INFINITE)

    def test_e_below(self):
        self.check_signs(number(TOP, -900), number(TOP, 76), number(TOP, -1023), number(TOP, -1023))
        self.check_signs(number(TOP, -900), number(TOP, 77), 0, 0)
        self.check_signs(number(1, -900), number(4, 75), number(2 ** 46, -1023), number(2 ** 46, -1023))
        self.check_signs(number(1, -900), number(4, 76), 0, 0)
        self.check_signs(number(4, -900), number(2, 77), INDEFINITE, number(TOP, -1023))
        self.check_signs(number(4, -900), number(2, 78), INDEFINITE, 0)

    def test_0_by_others(self):
        for zero in ZEROS:
            for other in ORDINARY:
                self.check_signs(zero, other, 0, 0)

    def test_by_0(self):
        for other in ORDINARY:
            for zero in (0, number(0, 5), number(0, 1022), number(0, -1)):
                self.check_signs(other, zero, INFINITE, INFINITE)

    def test_0_by_0(self):
        for left in ZEROS:
            for right in ZEROS:
                self.check(left, right, INDEFINITE, INDEFINITE)

    def test_indefinite(self):
        others = ORDINARY + ZEROS + INFINITES + (MINUS_INFINITE,) + INDEFINITES
        for value in INDEFINITES:
            for other in others:
                self.check(value, other, INDEFINITE, INDEFINITE)
                self.check(other, value, INDEFINITE, INDEFINITE)

    def test_both_infinite(self):
        for left in INFINITES:
            for right in INFINITES:
                self.check_signs(left, right, INDEFINITE, INDEFINITE)

    def test_infinite_by_others(self):
        for value in INFINITES:
            for other in ORDINARY + (0, number(0, 5)):
                self.check_signs(value, other, INFINITE, INFINITE)

    def test_others_by_infinite(self):
        for value in INFINITES:
            for other in ORDINARY + ZEROS:
                self.check_signs(other, value, 0, 0)


if __name__ == "__main__":
    unittest.main()
