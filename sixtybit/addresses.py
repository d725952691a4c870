"""The instructions 50 to 77: sums of 18 bits, and what setting an A does to memory."""

from sixtybit.reasons import DONE, NO_WORD
from sixtybit.words import MEMORY_WORDS, ONES18, minus, plus


def a_plus_number(m, j, k):
    return plus(m.a[j], k, ONES18)


def b_plus_number(m, j, k):
    return plus(m.b[j], k, ONES18)


def x_plus_number(m, j, k):
    return plus(m.x[j] & ONES18, k, ONES18)


def x_plus_b(m, j, k):
    return plus(m.x[j] & ONES18, m.b[k], ONES18)


def a_plus_b(m, j, k):
    return plus(m.a[j], m.b[k], ONES18)


def a_minus_b(m, j, k):
    return minus(m.a[j], m.b[k], ONES18)


def b_plus_b(m, j, k):
    return plus(m.b[j], m.b[k], ONES18)


def b_minus_b(m, j, k):
    return minus(m.b[j], m.b[k], ONES18)


# By the last digit of the instruction's number.
SUMS = (
    a_plus_number, b_plus_number, x_plus_number, x_plus_b,
    a_plus_b, a_minus_b, b_plus_b, b_minus_b,
)


def set_a(m, i, address):
    if i != 0 and address >= MEMORY_WORDS:
        return NO_WORD
    m.a[i] = address
    if i >= 6:
        m.memory[address] = m.x[i]
    elif i >= 1:
        m.x[i] = m.memory[address]
    return DONE
