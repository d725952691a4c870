"""Many words at once against a second reckoning, which follows the document with fractions and rows of bits."""

import random
import unittest
from fractions import Fraction

from tests.helper import NOTHING, ONES18, ONES60, OUT, begin, load, look, one, run, told, two, word

INFINITE, INDEFINITE = 0o3777, 0o1777
SEED = 6600
PAIRS = 400


def bits(value, width=60):
    return format(value, f"0{width}b")


def turned(row):
    return "".join("1" if bit == "0" else "0" for bit in row)


def plus(a, b, ones):
    c = ones - b
    return a - c if not c > a else a + ones - c


def minus(a, b, ones):
    return plus(a, ones - b, ones)


def left(value, n):
    row = bits(value)
    for _ in range(n):
        row = row[1:] + row[0]
    return int(row, 2)


def right(value, n):
    row = bits(value)
    for _ in range(n):
        row = row[0] + row[:-1]
    return int(row, 2)


def read(value):
    """Sign (1 or -1), E, c and e of a word."""
    row = bits(value)
    sign = 1
    if row[0] == "1":
        row, sign = turned(row), -1
    E, c = int(row[:12], 2), int(row[12:], 2)
    return sign, E, c, E - 0o2000 if E >= 0o2000 else E - 0o1777


def special(E, sign):
    value = E << 48
    return value if sign > 0 else ONES60 - value


def written(sign, c, e):
    if c == 0 or e < -1023:
        return 0
    if e > 1022:
        return special(INFINITE, sign)
    return special(e + (0o2000 if e >= 0 else 0o1777), 1) + c if sign > 0 else ONES60 - written(1, c, e)


def halves(sign, r, f):
    """Upper, lower, rounded."""
    if len(bin(r)) - 2 == 97:
        r, f = int(Fraction(r, 2)), f + 1
    row = bits(r, 96)
    upper, lower = int(row[:48], 2), int(row[48:], 2)
    rounded, e = upper + (row[48] == "1"), f + 48
    if rounded == 2 ** 48:
        rounded, e = 2 ** 47, e + 1
    return written(sign, upper, f + 48), written(sign, lower, f), written(sign, rounded, e)


def all_same(value):
    return value, value, value


def sums(x, y):
    (s, E, c, e), (t, F, d, f) = read(x), read(y)
    if INDEFINITE in (E, F):
        return all_same(special(INDEFINITE, 1))
    if E == F == INFINITE:
        return all_same(special(INFINITE, s) if s == t else special(INDEFINITE, 1))
    if INFINITE in (E, F):
        return all_same(special(INFINITE, s if E == INFINITE else t))
    g = max(e, f)
    total = sum(sign * int(Fraction(n * 2 ** 48, 2 ** (g - m))) for sign, n, m in ((s, c, e), (t, d, f)))
    return halves(-1 if total < 0 else 1, abs(total), g - 48)


def products(x, y):
    (s, E, c, e), (t, F, d, f) = read(x), read(y)
    if INDEFINITE in (E, F):
        return all_same(special(INDEFINITE, 1))
    if INFINITE in (E, F):
        zero = (E != INFINITE and c == 0) or (F != INFINITE and d == 0)
        return all_same(special(INDEFINITE, 1) if zero else special(INFINITE, s * t))
    r, counting = c * d, e + f
    if len(bin(c)) == len(bin(d)) == 50 and len(bin(r)) < 98:
        r, counting = 2 * r, counting - 1
    return halves(s * t, r, counting)


def quotient(x, y, rounded):
    (s, E, c, e), (t, F, d, f) = read(x), read(y)
    if INDEFINITE in (E, F) or E == F == INFINITE:
        return special(INDEFINITE, 1)
    if E == INFINITE:
        return special(INFINITE, s * t)
    if F == INFINITE:
        return 0
    if d == 0:
        return special(INFINITE, s * t) if c else special(INDEFINITE, 1)
    shift = 48 if c < d else 47
    q = int((Fraction(c) * 2 ** shift + (Fraction(d, 2) if rounded else 0)) / d)
    if rounded and q == 2 ** 48:
        return written(s * t, 2 ** 47, e - f - shift + 1)
    return special(INDEFINITE, 1) if q >= 2 ** 48 else written(s * t, q, e - f - shift)


def normalized(x, rounded):
    sign, E, c, e = read(x)
    if E in (INFINITE, INDEFINITE):
        return x, 0
    if c == 0:
        return 0, 48
    n, first = 0, 1 if rounded else 0
    while c < 2 ** 47:
        c, n, first = 2 * c + first, n + 1, 0
    return written(sign, c, e - n), n


def unpacked(x):
    sign, E, c, _ = read(x)
    row = bits(E, 11)
    row = turned(row[0]) + row[1:]
    return (c if sign > 0 else ONES60 - c), int(row[0] * 7 + row, 2)


def packed(x, b):
    sign, _, c, _ = read(x)
    row = bits(b, 18)[7:]
    return special(int(turned(row[0]) + row[1:], 2), 1) + c if sign > 0 else ONES60 - packed(ONES60 - x, b)


def shifted(x, b, left_first):
    below = bits(b, 18)[0] == "1"
    size = ONES18 - b if below else b
    return left(x, size % 64) if below != left_first else right(x, size % 4096)


def expected(x, y, b):
    """X6 and B3 behind each number from 10 to 47 (20, 21 and 43 apart), with X1 = x, X2 = y, B3 = b."""
    no = ONES60 - y
    result = {0o10: x, 0o11: x & y, 0o12: x | y, 0o13: x ^ y, 0o14: no, 0o15: x & no, 0o16: x | no, 0o17: x ^ no}
    result[0o22], result[0o23] = shifted(y, b, True), shifted(y, b, False)
    result[0o27] = packed(y, b)
    result[0o30], result[0o32], result[0o34] = sums(x, y)
    result[0o31], result[0o33], result[0o35] = sums(x, no)
    result[0o36], result[0o37] = plus(x, y, ONES60), minus(x, y, ONES60)
    result[0o40], result[0o42], result[0o41] = products(x, y)
    result[0o44], result[0o45] = quotient(x, y, False), quotient(x, y, True)
    result[0o46], result[0o47] = 0, bits(y).count("1")
    return {fm: (value, b) for fm, value in result.items()} | {
        0o24: normalized(y, False), 0o25: normalized(y, True), 0o26: unpacked(y)}


def program():
    """For each number: X1, X2, B3 from words 3000 to 3002, the instruction, X6 and B3 stored from OUT on."""
    code = []
    for fm in [*range(0o10, 0o20), *range(0o22, 0o43), *range(0o44, 0o50)]:
        j = 3 if fm in (0o22, 0o23, 0o24, 0o25, 0o26, 0o27) else 1
        at = OUT + 2 * fm
        code += [word(two(0o51, 1, 0, 3002), two(0o62, 3, 1, ONES18)), word(two(0o51, 1, 0, 3000), two(0o51, 2, 0, 3001)),
                 word(one(0o13, 6, 6, 6), one(fm, 6, j, 2), two(0o51, 6, 0, at)),
                 word(two(0o71, 7, 3, ONES18), two(0o51, 7, 0, at + 1))]
    return code + [0]


def some_word(source):
    kind = source.randrange(6)
    if kind == 0:
        return source.getrandbits(60)
    c = source.choice((0, 1, 2 ** 47, 2 ** 48 - 1, 2 ** 47 + 1, source.getrandbits(48), source.getrandbits(48) | 2 ** 47,
                       source.getrandbits(source.randrange(1, 49))))
    E = source.choice((0, 1, 0o1776, 0o1777, 0o2000, 0o3776, 0o3777, source.getrandbits(11), source.getrandbits(11),
                       0o1720 + source.randrange(-50, 51), 0o1720 + source.randrange(-50, 51)))
    value = (E << 48) + c
    return ONES60 - value if source.randrange(2) else value


class Reckoning(unittest.TestCase):
    def test_10_to_47(self):
        source = random.Random(SEED)
        code = program()
        for _ in range(PAIRS):
            x, y = some_word(source), some_word(source)
            b = source.choice((0, ONES18, source.randrange(70), ONES18 - source.randrange(70), source.getrandbits(18)))
            result = told(begin(), load(0, code), load(3000, [x, y, b]), run(10000), look(OUT, 0o50 * 2))[-1][1:]
            for fm, (value, count) in expected(x, y, b).items():
                self.assertEqual((result[2 * fm], result[2 * fm + 1] & ONES18), (value, count),
                                 (oct(fm), oct(x), oct(y), oct(b)))

    def test_20_21_and_43(self):
        source = random.Random(SEED)
        for n in range(64):
            value = some_word(source)
            j, k = n >> 3, n & 7
            code = [word(two(0o51, 1, 0, 3000), one(0o10, 6, 1, 1), one(0o10, 7, 1, 1)),
                    word(one(0o20, 6, j, k), one(0o21, 7, j, k), one(0o43, 1, j, k), NOTHING),
                    word(two(0o51, 6, 0, OUT), two(0o51, 7, 0, OUT + 1)),
                    word(one(0o10, 6, 1, 1), two(0o51, 6, 0, OUT + 2), NOTHING)]
            result = told(begin(), load(0, code), load(3000, [value]), run(100), look(OUT, 3))[-1][1:]
            mask = int(("1" * n + "0" * 60)[:60], 2)
            self.assertEqual(result, [left(value, n), right(value, n), mask])

    def test_sums_of_18_bits(self):
        source = random.Random(SEED)
        code = [word(two(0o51, 1, 0, 3000), two(0o62, 3, 1, ONES18)), word(two(0o51, 1, 0, 3001), two(0o62, 4, 1, ONES18)),
                word(one(0o76, 6, 3, 4), two(0o51, 6, 0, OUT), NOTHING), word(one(0o77, 6, 3, 4), two(0o51, 6, 0, OUT + 1))]
        for _ in range(PAIRS):
            a, b = (source.choice((0, ONES18, 2 ** 17, source.getrandbits(18), source.getrandbits(18))) for _ in "ab")
            result = told(begin(), load(0, code), load(3000, [a, b]), run(100), look(OUT, 2))[-1][1:]
            wide = [int(bits(value, 18)[0] * 42 + bits(value, 18), 2) for value in (plus(a, b, ONES18), minus(a, b, ONES18))]
            self.assertEqual(result, wide)


if __name__ == "__main__":
    unittest.main()
