"""What cy_get and cy_set reach by number: 0 to 7 A, 8 to 15 B, 16 to 23 X, then where the machine goes on."""

from sixtybit.words import ONES18, ONES60

FIRST_B = 8
FIRST_X = 16
NEXT_WORD = 24

# The next instruction's part, 25, can be told, but not set.
LAST_TOLD = 25
LAST_SET = 24


def number_in(m, which):
    if which < FIRST_B:
        return m.a[which]
    if which < FIRST_X:
        return m.b[which - FIRST_B]
    if which < NEXT_WORD:
        return m.x[which - FIRST_X]
    if which == NEXT_WORD:
        return m.at >> 2
    return m.at & 3


def put_number(m, which, value):
    if which < FIRST_B:
        # Not by an instruction's way: memory and X are left alone.
        m.a[which] = value & ONES18
    elif which < FIRST_X:
        m.set_b(which - FIRST_B, value & ONES18)
    elif which < NEXT_WORD:
        m.x[which - FIRST_X] = value & ONES60
    else:
        m.at = (value & ONES18) * 4
