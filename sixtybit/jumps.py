"""The instructions 00 to 07: where the machine goes on."""

from sixtybit.exponents import INDEFINITE, INFINITE, exponent_field
from sixtybit.reasons import DONE, NO_INSTRUCTION, NO_WORD, STOPPED
from sixtybit.words import MEMORY_WORDS, ONES18, ONES60, SIGN18, below_zero, minus, plus


def stop(m, i, j, k):
    return STOPPED


def leave_way_back(m, i, j, k):
    if i != 0:
        return NO_INSTRUCTION
    if k >= MEMORY_WORDS:
        return NO_WORD
    # m.at has moved on already, perhaps into the next word; the part before it is still this instruction's.
    behind = ((m.at - 1) >> 2) + 1
    m.memory[k] = ((0o04 << 24) | behind) << 30
    m.at = (k + 1) * 4
    return DONE


def go_on_from_b(m, i, j, k):
    m.at = plus(m.b[i], k, ONES18) * 4
    return DONE


def go_on_by_x(m, i, j, k):
    if word_holds(m.x[j], i):
        m.at = k * 4
    return DONE


def go_on_if_same(m, i, j, k):
    if minus(m.b[i], m.b[j], ONES18) in (0, ONES18):
        m.at = k * 4
    return DONE


def go_on_unless_same(m, i, j, k):
    if minus(m.b[i], m.b[j], ONES18) not in (0, ONES18):
        m.at = k * 4
    return DONE


def go_on_unless_less(m, i, j, k):
    if minus(m.b[i], m.b[j], ONES18) < SIGN18:
        m.at = k * 4
    return DONE


def go_on_if_less(m, i, j, k):
    if minus(m.b[i], m.b[j], ONES18) >= SIGN18:
        m.at = k * 4
    return DONE


def word_holds(word, i):
    if i < 2:
        even = word == 0 or word == ONES60
    elif i < 4:
        even = not below_zero(word)
    elif i < 6:
        even = exponent_field(word) != INFINITE
    else:
        even = exponent_field(word) != INDEFINITE
    # Each odd condition is the contrary of the even one before it.
    return even == (i % 2 == 0)


# In the order of their numbers.
JUMPS = (
    stop, leave_way_back, go_on_from_b, go_on_by_x,
    go_on_if_same, go_on_unless_same, go_on_unless_less, go_on_if_less,
)
