"""Ones' complement: words of 60 bits, numbers of 18, and how a word is shifted."""

ONES60 = 0o77777777777777777777
SIGN60 = 0o40000000000000000000
ONES18 = 0o777777
SIGN18 = 0o400000
MEMORY_WORDS = 65536


def plus(a, b, ones):
    """The sum in ones' complement; ones is a number with all its bits 1."""
    # From ones on, not above it: a sum of all 1s is taken to be 0, so only -0 and -0 make -0.
    if a + b >= ones:
        return a + b - ones
    return a + b


def minus(a, b, ones):
    if a >= b:
        return a - b
    return a + ones - b


def below_zero(word):
    return word >= SIGN60


def size_of(word):
    if word >= SIGN60:
        return ONES60 - word
    return word


def with_sign(word, negative):
    if negative:
        return ONES60 - word
    return word


def in_60_bits(number):
    if number >= SIGN18:
        return number + (ONES60 - ONES18)
    return number


def left_around(word, n):
    turned = n % 60
    return ((word << turned) | (word >> (60 - turned))) & ONES60


def right_with_sign(word, n):
    return with_sign(size_of(word) >> n, below_zero(word))


def ones_in(word):
    found = 0
    rest = word
    while rest != 0:
        # Taking 1 away turns the lowest 1 and all below it over, so each turn drops one 1.
        rest = rest & (rest - 1)
        found = found + 1
    return found


def upper_ones(n):
    return ONES60 - (ONES60 >> n)
