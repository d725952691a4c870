"""Numbers with exponents: how a word is read as one, and sums, products and quotients of them."""

from sixtybit.words import below_zero, size_of, with_sign

INFINITE = 0o3777
INDEFINITE = 0o1777
INFINITE_WORD = 0o37770000000000000000
INDEFINITE_WORD = 0o17770000000000000000
COEFFICIENT = 0o7777777777777777
TOP_BIT = 0o4000000000000000

# Which half of a sum or product is asked for.
UPPER = 0
LOWER = 1
ROUNDED = 2


def exponent_field(word):
    return size_of(word) >> 48


def exponent(field):
    if field >= 0o2000:
        return field - 0o2000
    return field - 0o1777


def coefficient(word):
    return size_of(word) & COEFFICIENT


def is_zero(word):
    return coefficient(word) == 0 and exponent_field(word) not in (INFINITE, INDEFINITE)


def infinite(negative):
    return with_sign(INFINITE_WORD, negative)


def as_word(negative, c, e):
    if c == 0 or e < -1023:
        return 0
    if e > 1022:
        return infinite(negative)
    field = e + 0o2000 if e >= 0 else e + 0o1777
    return with_sign((field << 48) | c, negative)


def half(which, negative, r, f):
    if r >> 96 != 0:
        r = r >> 1
        f = f + 1
    if which == LOWER:
        return as_word(negative, r & COEFFICIENT, f)
    c = r >> 48
    e = f + 48
    if which == ROUNDED:
        c = c + ((r >> 47) & 1)
        if c > COEFFICIENT:
            c = c >> 1
            e = e + 1
    return as_word(negative, c, e)


def total(which, left, right):
    fields = (exponent_field(left), exponent_field(right))
    if INDEFINITE in fields:
        return INDEFINITE_WORD
    if INFINITE in fields:
        return infinite_total(left, right, fields)
    greater = max(fields[0], fields[1])
    g = exponent(greater)
    r = aligned(left, g - exponent(fields[0])) + aligned(right, g - exponent(fields[1]))
    return half(which, r < 0, abs(r), g - 48)


def infinite_total(left, right, fields):
    if fields[0] != INFINITE:
        return infinite(below_zero(right))
    if fields[1] == INFINITE and below_zero(left) != below_zero(right):
        return INDEFINITE_WORD
    return infinite(below_zero(left))


def aligned(word, n):
    size = (coefficient(word) << 48) >> n
    if below_zero(word):
        return -size
    return size


def product(which, left, right):
    fields = (exponent_field(left), exponent_field(right))
    if INDEFINITE in fields:
        return INDEFINITE_WORD
    negative = below_zero(left) != below_zero(right)
    if INFINITE in fields:
        if is_zero(left) or is_zero(right):
            return INDEFINITE_WORD
        return infinite(negative)
    c = coefficient(left)
    d = coefficient(right)
    r = c * d
    f = exponent(fields[0]) + exponent(fields[1])
    if c >= TOP_BIT and d >= TOP_BIT and r >> 95 == 0:
        r = r << 1
        f = f - 1
    return half(which, negative, r, f)


def quotient(rounded, left, right):
    fields = (exponent_field(left), exponent_field(right))
    if INDEFINITE in fields:
        return INDEFINITE_WORD
    negative = below_zero(left) != below_zero(right)
    if fields[0] == INFINITE:
        return INDEFINITE_WORD if fields[1] == INFINITE else infinite(negative)
    if fields[1] == INFINITE:
        return 0
    c = coefficient(left)
    d = coefficient(right)
    if d == 0:
        return INDEFINITE_WORD if c == 0 else infinite(negative)
    return finite_quotient(rounded, negative, c, d, exponent(fields[0]) - exponent(fields[1]))


def finite_quotient(rounded, negative, c, d, e):
    s = 48 if c < d else 47
    # The half of an odd d may be cut here: half a unit never carries a whole number over the next multiple of d.
    q = ((c << s) + (d >> 1 if rounded else 0)) // d
    if rounded and q == COEFFICIENT + 1:
        return as_word(negative, TOP_BIT, e - s + 1)
    if q > COEFFICIENT:
        return INDEFINITE_WORD
    return as_word(negative, q, e - s)


def normalizing_shift(word):
    if exponent_field(word) in (INFINITE, INDEFINITE):
        return 0
    return 48 - coefficient(word).bit_length()


def normalized(rounded, word):
    field = exponent_field(word)
    if field in (INFINITE, INDEFINITE):
        return word
    n = normalizing_shift(word)
    c = coefficient(word) << n
    # A coefficient of 0 stays 0: the rounding 1 is for what is shifted, and there's nothing to shift.
    if rounded and c != 0 and n > 0:
        c = c | (1 << (n - 1))
    return as_word(below_zero(word), c, exponent(field) - n)
