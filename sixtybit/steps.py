"""A step: the next instruction is read from its word and done, or nothing changes."""

from sixtybit.addresses import SUMS, set_a
from sixtybit.jumps import JUMPS
from sixtybit.reasons import CUT_OFF, DONE, NO_WORD
from sixtybit.results import RESULTS
from sixtybit.words import in_60_bits

MEMORY_PARTS = 262144

# How many parts an instruction has, by its number; a row for each first digit.
PARTS = (
    1, 2, 2, 2, 2, 2, 2, 2,
    1, 1, 1, 1, 1, 1, 1, 1,
    1, 1, 1, 1, 1, 1, 1, 1,
    1, 1, 1, 1, 1, 1, 1, 1,
    1, 1, 1, 1, 1, 1, 1, 1,
    2, 2, 2, 1, 1, 1, 1, 1,
    2, 2, 2, 1, 1, 1, 1, 1,
    2, 2, 2, 1, 1, 1, 1, 1,
)


def step(m):
    """Do the next instruction; answer DONE, or the reason that it can't be done."""
    at = m.at
    if at >= MEMORY_PARTS:
        return NO_WORD
    place = at & 3
    word = m.memory[at >> 2]
    part = (word >> (45 - 15 * place)) & 0o77777
    fm = part >> 9
    k = part & 7
    if PARTS[fm] == 2:
        if place == 3:
            return CUT_OFF
        k = (word >> (30 - 15 * place)) & 0o777777
    # Moved on first, because a jump sets it anew.
    m.at = at + PARTS[fm]
    why = perform(m, fm, (part >> 6) & 7, (part >> 3) & 7, k)
    if why != DONE:
        m.at = at
    return why


def perform(m, fm, i, j, k):
    if fm < 0o10:
        return JUMPS[fm](m, i, j, k)
    if fm < 0o50:
        m.x[i] = RESULTS[fm - 0o10](m, i, j, k)
        return DONE
    number = SUMS[fm & 7](m, j, k)
    if fm < 0o60:
        return set_a(m, i, number)
    if fm < 0o70:
        m.set_b(i, number)
    else:
        m.x[i] = in_60_bits(number)
    return DONE


def run(m, n):
    """Do up to n steps and keep why that ended; answer how many were done."""
    done = 0
    why = DONE
    while done < n and why == DONE:
        why = step(m)
        if why == DONE:
            done = done + 1
    m.why = why
    return done
