"""Writes calls and programs for the machine, and tells what they leave behind.

So that the instructions are tested by themselves, X and B are set by a prelude of
instructions, and X, A and B are stored by a closing piece, without cy_get and cy_set.
"""

from sixtybit.machine import answers

ONES60 = 2 ** 60 - 1
ONES18 = 2 ** 18 - 1
MEMORY = 65536
MOST = 2 ** 32 - 1
NOTHING = ((0o46 << 9),)
STOP = (0,)

DATA = 40000
OUT = 50000
MARK = 51000
TARGET = 30000

INFINITE = 0o37770000000000000000
INDEFINITE = 0o17770000000000000000


def one(fm, i=0, j=0, k=0):
    """An instruction of one part."""
    return ((fm << 9) | (i << 6) | (j << 3) | k,)


def two(fm, i=0, j=0, K=0):
    """An instruction of two parts."""
    return ((fm << 9) | (i << 6) | (j << 3) | (K >> 15), K & 0o77777)


def word(*instructions):
    """A word of these instructions, filled up with 00."""
    parts = [part for instruction in instructions for part in instruction]
    assert len(parts) <= 4
    parts += [0] * (4 - len(parts))
    total = 0
    for part in parts:
        total = total << 15 | part
    return total


def words_of(instructions):
    """Words of these instructions, filled up with 46 where two parts don't fit, and at the end."""
    parts = []
    for instruction in instructions:
        if len(instruction) == 2 and len(parts) % 4 == 3:
            parts += NOTHING
        parts += instruction
    while len(parts) % 4:
        parts += NOTHING
    return [word(*[(part,) for part in parts[at:at + 4]]) for at in range(0, len(parts), 4)]


def begin():
    return [0]


def load(at, words):
    return [1, at, len(words)] + list(words)


def look(at, n):
    return [2, at, n]


def run(n):
    return [3, n]


def why():
    return [4]


def get(which):
    return [5, which]


def put(which, value):
    return [6, which, value]


def get_all():
    """The calls that tell each of 0 to 25."""
    return [get(which) for which in range(26)]


def told(*calls):
    """What each of these calls answers, a list each."""
    flat = answers([number for call in calls for number in call])
    found = []
    at = 0
    while at < len(flat):
        found.append(flat[at + 1:at + 1 + flat[at]])
        at += 1 + flat[at]
    assert len(found) == len(calls)
    return found


def negative(word_):
    return ONES60 - word_


def below(n):
    """The 18-bit number that counts as -n."""
    return ONES18 - n


def number(c, e, minus=False):
    """The word of c 2^e, for those that can be written as they are."""
    assert 0 <= c < 2 ** 48 and -1023 <= e <= 1022
    plain = (e + 0o2000 if e >= 0 else e + 0o1777) << 48 | c
    return negative(plain) if minus else plain


def prelude(x, b, a0):
    """The instructions that set X, B and A0 so, and the words from DATA on that they need."""
    instructions, data = [], []

    def fetch(i, value):
        instructions.append(two(0o51, i, 0, DATA + len(data)))
        data.append(value)

    # K all 1s is -0, with which a sum is the other number to the bit.
    for i in sorted(b):
        fetch(1, b[i])
        instructions.append(two(0o62, i, 1, ONES18))
    if a0:
        fetch(1, a0)
        instructions.append(two(0o52, 0, 1, ONES18))
    for i in (0, 6, 7):
        fetch(1, x.get(i, 0))
        instructions.append(one(0o10, i, 1, 1))
    for i in range(1, 6):
        fetch(i, x.get(i, 0))
    return instructions, data


def closing():
    """Stores X0 to X7, A0 to A6 and B0 to B7 from OUT on, and stops."""
    instructions = [two(0o51, 7, 0, OUT + 7)]
    for n in range(7):
        instructions += [one(0o10, 7, n, n), two(0o51, 7, 0, OUT + n)]
    for n in range(7):
        instructions += [two(0o70, 7, n, ONES18), two(0o51, 7, 0, OUT + 8 + n)]
    for n in range(8):
        instructions += [two(0o71, 7, n, ONES18), two(0o51, 7, 0, OUT + 16 + n)]
    return instructions + [STOP]


class State:
    """What closing() stored."""

    def __init__(self, stored):
        self.x = stored[0:8]
        self.a = [value & ONES18 for value in stored[8:15]]
        self.b = [value & ONES18 for value in stored[16:24]]


def after(instructions, x=None, b=None, a0=0, memory=None):
    """The state behind these instructions, begun with X, B, A0 and memory so."""
    ahead, data = prelude(x or {}, b or {}, a0)
    code = words_of(ahead + list(instructions) + closing())
    pieces = [load(at, [value]) for at, value in (memory or {}).items()]
    result = told(begin(), load(0, code), load(DATA, data), *pieces, run(100000), look(OUT, 24))
    return State(result[-1][1:])


def x_after(fm, left=0, right=0, b=None):
    """X6 behind the instruction fm with i 6, j 1, k 2, X1 and X2 being left and right."""
    return after([one(fm, 6, 1, 2)], x={1: left, 2: right}, b=b).x[6]


def went_on(jump, x=None, b=None):
    """True if this jump goes on at TARGET, False if behind itself."""
    ahead, data = prelude(x or {}, b or {}, 0)
    mark = [one(0o66, 7, 0, 0), two(0o51, 6, 0, MARK), STOP]
    stay = words_of(ahead + [jump, two(0o71, 6, 0, 1)] + mark)
    go = words_of([two(0o71, 6, 0, 2)] + mark)
    result = told(begin(), load(0, stay), load(TARGET, go), load(DATA, data), run(1000), look(MARK, 1))
    return {1: False, 2: True}[result[-1][1]]
