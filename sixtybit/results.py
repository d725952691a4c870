"""The instructions 10 to 47: what Xi becomes."""

from sixtybit.exponents import LOWER, ROUNDED, UPPER
from sixtybit.exponents import coefficient, exponent_field, normalized, normalizing_shift, product, quotient, total
from sixtybit.words import ONES18, ONES60, SIGN18
from sixtybit.words import below_zero, left_around, minus, ones_in, plus, right_with_sign, upper_ones, with_sign


def copied(m, i, j, k):
    return m.x[j]


def both(m, i, j, k):
    return m.x[j] & m.x[k]


def either(m, i, j, k):
    return m.x[j] | m.x[k]


def one_alone(m, i, j, k):
    return m.x[j] ^ m.x[k]


def complement(m, i, j, k):
    return ONES60 - m.x[k]


def both_complement(m, i, j, k):
    return m.x[j] & (ONES60 - m.x[k])


def either_complement(m, i, j, k):
    return m.x[j] | (ONES60 - m.x[k])


def one_alone_complement(m, i, j, k):
    return m.x[j] ^ (ONES60 - m.x[k])


def left_by_jk(m, i, j, k):
    return left_around(m.x[i], 8 * j + k)


def right_by_jk(m, i, j, k):
    return right_with_sign(m.x[i], 8 * j + k)


def left_by_b(m, i, j, k):
    n = m.b[j]
    if n < SIGN18:
        return left_around(m.x[k], n % 64)
    return right_with_sign(m.x[k], (ONES18 - n) % 4096)


def right_by_b(m, i, j, k):
    n = m.b[j]
    if n < SIGN18:
        return right_with_sign(m.x[k], n % 4096)
    return left_around(m.x[k], (ONES18 - n) % 64)


def normalize(m, i, j, k):
    m.set_b(j, normalizing_shift(m.x[k]))
    return normalized(False, m.x[k])


def normalize_rounded(m, i, j, k):
    m.set_b(j, normalizing_shift(m.x[k]))
    return normalized(True, m.x[k])


def unpack(m, i, j, k):
    word = m.x[k]
    turned = exponent_field(word) ^ 0o2000
    # The upper 7 of the 18 bits are like the highest of the 11.
    m.set_b(j, turned | 0o774000 if turned >= 0o2000 else turned)
    return with_sign(coefficient(word), below_zero(word))


def pack(m, i, j, k):
    word = m.x[k]
    field = (m.b[j] & 0o3777) ^ 0o2000
    return with_sign((field << 48) | coefficient(word), below_zero(word))


def upper_total(m, i, j, k):
    return total(UPPER, m.x[j], m.x[k])


def upper_difference(m, i, j, k):
    return total(UPPER, m.x[j], ONES60 - m.x[k])


def lower_total(m, i, j, k):
    return total(LOWER, m.x[j], m.x[k])


def lower_difference(m, i, j, k):
    return total(LOWER, m.x[j], ONES60 - m.x[k])


def rounded_total(m, i, j, k):
    return total(ROUNDED, m.x[j], m.x[k])


def rounded_difference(m, i, j, k):
    return total(ROUNDED, m.x[j], ONES60 - m.x[k])


def whole_total(m, i, j, k):
    return plus(m.x[j], m.x[k], ONES60)


def whole_difference(m, i, j, k):
    return minus(m.x[j], m.x[k], ONES60)


def upper_product(m, i, j, k):
    return product(UPPER, m.x[j], m.x[k])


def rounded_product(m, i, j, k):
    return product(ROUNDED, m.x[j], m.x[k])


def lower_product(m, i, j, k):
    return product(LOWER, m.x[j], m.x[k])


def mask(m, i, j, k):
    return upper_ones(8 * j + k)


def plain_quotient(m, i, j, k):
    return quotient(False, m.x[j], m.x[k])


def rounded_quotient(m, i, j, k):
    return quotient(True, m.x[j], m.x[k])


def unchanged(m, i, j, k):
    return m.x[i]


def count_of_ones(m, i, j, k):
    return ones_in(m.x[k])


# In the order of their numbers, from 10 on.
RESULTS = (
    copied, both, either, one_alone,
    complement, both_complement, either_complement, one_alone_complement,
    left_by_jk, right_by_jk, left_by_b, right_by_b,
    normalize, normalize_rounded, unpack, pack,
    upper_total, upper_difference, lower_total, lower_difference,
    rounded_total, rounded_difference, whole_total, whole_difference,
    upper_product, rounded_product, lower_product, mask,
    plain_quotient, rounded_quotient, unchanged, count_of_ones,
)
