"""Over the whole program: long lists of all seven calls, against a second machine that follows the document."""

import random
import unittest

from sixtybit.machine import answers
from tests import test_reckoning as reckoning
from tests.helper import (MEMORY, MOST, NOTHING, ONES18, ONES60, begin, get, get_all, load, look, one, put, run, told, two,
                          why, word)

SEED = 6600
LISTS = 60
TWO_PARTS = (0o01, 0o02, 0o03, 0o04, 0o05, 0o06, 0o07, 0o50, 0o51, 0o52, 0o60, 0o61, 0o62, 0o70, 0o71, 0o72)
ALL_1S = 2 ** 64 - 1


def wide(value):
    row = reckoning.bits(value, 18)
    return int(row[0] * 42 + row, 2)


class Second:
    """The machine once more: all numbers that cy_get tells in one list, memory in a dict."""

    def __init__(self):
        self.begin()

    def begin(self):
        self.numbers = [0] * 26
        self.memory = {}
        self.ended = 0
        return [0]

    def load(self, at, n, *words):
        if at + n > MEMORY:
            return [-1]
        self.memory.update((at + k, value % 2 ** 60) for k, value in enumerate(words))
        return [0]

    def look(self, at, n):
        return [0] + [self.memory.get(at + k, 0) for k in range(n)] if at + n <= MEMORY else [-1]

    def run(self, n):
        if n > 10000000:
            return [-1]
        for done in range(n):
            self.ended = self.step()
            if self.ended:
                return [done]
        self.ended = 0
        return [n]

    def why(self):
        return [self.ended]

    def get(self, which):
        return [0, self.numbers[which]] if which < 26 else [-1]

    def put(self, which, value):
        if which > 24:
            return [-1]
        self.numbers[which] = value % 2 ** (60 if 16 <= which < 24 else 18)
        self.numbers[8] = 0
        if which == 24:
            self.numbers[25] = 0
        return [0]

    def answer(self, call):
        return [self.begin, self.load, self.look, self.run, self.why, self.get, self.put][call[0]](*call[1:])

    def step(self):
        at, part = self.numbers[24:]
        if at >= MEMORY:
            return 2
        row = reckoning.bits(self.memory.get(at, 0))[15 * part:]
        fm, i, j, k = int(row[:6], 2), int(row[6:9], 2), int(row[9:12], 2), int(row[12:15], 2)
        behind = part + 1
        if fm in TWO_PARTS:
            if part == 3:
                return 3
            k, behind = int(row[12:30], 2), part + 2
        onward = (at, behind) if behind < 4 else (at + 1, 0)
        if fm < 0o10:
            onward = self.jump(fm, i, j, k, onward)
        elif fm < 0o50:
            self.result(fm, i, j, k)
        elif not self.address(fm, i, self.sum(fm % 8, j, k)):
            return 2
        if isinstance(onward, int):
            return onward
        self.numbers[24:] = onward
        self.numbers[8] = 0
        return 0

    def jump(self, fm, i, j, k, onward):
        """Where it goes on, or the reason that it can't."""
        b, x = self.numbers[8:16], self.numbers[16:24]
        if fm == 0o00:
            return 1
        if fm == 0o01:
            if i:
                return 4
            if k >= MEMORY:
                return 2
            self.memory[k] = word(two(0o04, 0, 0, self.numbers[24] + 1))
            return (k + 1, 0)
        if fm == 0o02:
            return (reckoning.plus(b[i], k, ONES18), 0)
        if fm == 0o03:
            E = reckoning.read(x[j])[1]
            zero, high = x[j] in (0, ONES60), x[j] >= 2 ** 59
            taken = [zero, not zero, not high, high, E != 0o3777, E == 0o3777, E != 0o1777, E == 0o1777][i]
        else:
            less = reckoning.minus(b[i], b[j], ONES18)
            zero, high = less in (0, ONES18), less >= 2 ** 17
            taken = [zero, not zero, not high, high][fm - 4]
        return (k, 0) if taken else onward

    def result(self, fm, i, j, k):
        x = self.numbers[16:24]
        jk = 8 * j + k
        if fm in (0o20, 0o21, 0o43, 0o46):
            value = {0o20: reckoning.left(x[i], jk), 0o21: reckoning.right(x[i], jk),
                     0o43: int(("1" * jk + "0" * 60)[:60], 2), 0o46: x[i]}[fm]
            self.numbers[16 + i] = value
            return
        value, b = reckoning.expected(x[j], x[k], self.numbers[8 + j])[fm]
        self.numbers[16 + i] = value
        self.numbers[8 + j] = b

    def sum(self, digit, j, k):
        a, b, x = self.numbers[0:8], self.numbers[8:16], self.numbers[16:24]
        first = [a[j], b[j], x[j] % 2 ** 18, x[j] % 2 ** 18, a[j], a[j], b[j], b[j]][digit]
        other = k if digit < 3 else b[k]
        return (reckoning.minus if digit in (5, 7) else reckoning.plus)(first, other, ONES18)

    def address(self, fm, i, value):
        """False if there must be such a word and isn't."""
        if fm >= 0o60:
            self.numbers[8 + i if fm < 0o70 else 16 + i] = value if fm < 0o70 else wide(value)
            return True
        if i and value >= MEMORY:
            return False
        self.numbers[i] = value
        if 1 <= i <= 5:
            self.numbers[16 + i] = self.memory.get(value, 0)
        elif i:
            self.memory[value] = self.numbers[16 + i]
        return True


def some_place(source):
    return source.choice((source.randrange(64), source.randrange(64), source.randrange(64), 65535 - source.randrange(4),
                          65536, source.getrandbits(18), ONES18))


def some_instruction(source):
    fm = source.choice((source.randrange(64), source.randrange(0o02, 0o100), source.randrange(0o10, 0o50)))
    i, j, k = (source.randrange(8) for _ in "ijk")
    if fm in TWO_PARTS:
        return two(fm, 0 if fm == 0o01 and source.randrange(4) else i, j, some_place(source))
    return one(fm, i, j, k)


def some_code(source):
    """A word of instructions, now and then one that's cut off in its last part."""
    parts = ()
    while len(parts) < 4:
        parts += some_instruction(source)
    return word(*[(part,) for part in parts[:4]])


def some_value(source):
    return source.choice((source.randrange(64), source.randrange(64), ONES18 - source.randrange(9), source.getrandbits(18),
                          source.getrandbits(64), reckoning.some_word(source), reckoning.some_word(source), ALL_1S))


def some_call(source):
    kind = source.choice((1, 2, 3, 3, 3, 3, 4, 4, 5, 5, 5, 6, 6, 6))
    if kind == 1:
        words = [source.choice((some_code, some_value))(source) for _ in range(source.randrange(6))]
        return load(source.choice((some_place(source), MOST)), words)
    if kind == 2:
        return look(some_place(source), source.choice((0, 1, 2, 70, 65536, 65537, MOST)) if source.randrange(9) else 9)
    if kind == 3:
        return run(source.choice((0, 1, 1, 2, 3, 9, 40, 10000001, MOST)))
    if kind == 4:
        return why()
    if kind == 5:
        return get(source.choice((source.randrange(24), 24, 25, 26, MOST)))
    which = source.choice((source.randrange(24), source.randrange(24), 24, 24, 25, 26, MOST))
    return put(which, some_place(source) if which == 24 else some_value(source))


def some_beginning(source):
    calls = [begin(), why(), load(0, [some_code(source) for _ in range(64)])]
    return calls + [put(which, some_value(source)) for which in range(24)]


def some_list(source):
    """A list of 400 calls, all seven among them, of 16000 numbers at most; it begins anew in its middle."""
    calls = some_beginning(source)
    while len(calls) < 400 - 27:
        if len(calls) == 200:
            calls += some_beginning(source)
        call = some_call(source)
        if looked_at(calls + [call]) <= 900000 - 128:
            calls.append(call)
    return calls + get_all() + [look(0, 128)]


def looked_at(calls):
    return sum(call[2] for call in calls if call[0] == 2 and call[2] <= 1048576)


def flat(calls):
    return [number for call in calls for number in call]


class Whole(unittest.TestCase):
    def test_lists_of_400_calls(self):
        source = random.Random(SEED)
        reasons = set()
        for turn in range(LISTS):
            calls = some_list(source)
            self.assertEqual(len(calls), 400)
            self.assertLessEqual(len(flat(calls)), 16000)
            self.assertLessEqual(looked_at(calls), 900000)
            self.assertEqual({call[0] for call in calls}, set(range(7)))
            second = Second()
            for number, (call, answer) in enumerate(zip(calls, told(*calls))):
                self.assertEqual(answer, second.answer(call), (turn, number, call))
                reasons.add(second.ended)
        self.assertEqual(reasons, {0, 1, 2, 3, 4})

    def test_each_instruction(self):
        source = random.Random(SEED)
        for fm in range(64):
            for _ in range(20):
                i, j, k = (source.randrange(8) for _ in "ijk")
                instruction = two(fm, i, j, some_place(source)) if fm in TWO_PARTS else one(fm, i, j, k)
                code = word(*[NOTHING] * source.randrange(3), instruction)
                calls = [begin(), load(0, [some_code(source) for _ in range(64)]), load(9, [code]), put(24, 9)]
                calls += [put(which, some_value(source)) for which in range(24)]
                calls += [run(3), why(), *get_all(), look(0, 70)]
                second = Second()
                self.assertEqual(told(*calls), [second.answer(call) for call in calls], oct(fm))

    def test_the_list_is_as_it_was_and_answered_alike(self):
        source = random.Random(SEED)
        lists = [flat(some_list(source)) for _ in range(5)]
        copies = [list(calls) for calls in lists]
        first = [answers(calls) for calls in lists]
        again = [answers(calls) for calls in reversed(lists)]
        self.assertEqual(lists, copies)
        self.assertEqual(first, list(reversed(again)))

    def test_answers_are_whole_numbers_in_a_list(self):
        result = answers(flat(some_list(random.Random(SEED))))
        self.assertIs(type(result), list)
        self.assertEqual({type(number) for number in result}, {int})

    def test_all_seven_by_hand(self):
        code = word(two(0o71, 6, 1, 5), two(0o51, 6, 0, 9))
        calls = [0, 1, 0, 1, code, 6, 9, 2 ** 18 + 2, 3, 100, 4, 2, 9, 1, 5, 22, 5, 24, 5, 25, 5, 26, 6, 25, 0, 3, 10000001, 4]
        self.assertEqual(answers(calls), [1, 0, 1, 0, 1, 0, 1, 2, 1, 1, 2, 0, 7, 2, 0, 7, 2, 0, 1, 2, 0, 0, 1, -1, 1, -1,
                                          1, -1, 1, 1])

    def test_nothing_is_kept_between_lists(self):
        answers(flat([begin(), load(0, [NOTHING[0] << 45]), put(24, 5), put(3, 7), run(9)]))
        self.assertEqual(answers(flat([begin(), why(), get(3), get(24), look(0, 1)])),
                         [1, 0, 1, 0, 2, 0, 0, 2, 0, 0, 2, 0, 0])


if __name__ == "__main__":
    unittest.main()
