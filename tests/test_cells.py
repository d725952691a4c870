"""Point 5: cy_get and cy_set, and a run behind cy_set."""

import unittest

from sixtybit.machine import answers
from tests.helper import (MOST, NOTHING, ONES18, ONES60, STOP, begin, get, get_all, load, look, one, put, run, told,
                          two, why, word)

MOST_VALUE = 2 ** 64 - 1
FULL = word(NOTHING, NOTHING, NOTHING, NOTHING)
# Another number for each that can be set, B0 apart; A, B and 24 have 18 bits, X has 60.
NUMBERS = {which: 0o700000 + 11 * which for which in [*range(8), *range(9, 16), 24]} | {
    which: ONES60 - 12345 * which for which in range(16, 24)}


def numbers(*calls):
    """What cy_get tells of each of 0 to 25 behind these calls."""
    result = told(*calls, *get_all())[-26:]
    for answer in result:
        assert len(answer) == 2 and answer[0] == 0
    return [answer[1] for answer in result]


def place(*calls):
    """What 24 and 25 are behind these calls."""
    return tuple(numbers(*calls)[24:])


def all_put():
    return [put(which, value) for which, value in NUMBERS.items()]


def expected(changes=None):
    """0 to 25 behind all_put() and these changes."""
    found = [NUMBERS.get(which, 0) for which in range(26)]
    for which, value in (changes or {}).items():
        found[which] = value
    return found


class Get(unittest.TestCase):
    def test_at_the_beginning(self):
        self.assertEqual(numbers(begin()), [0] * 26)

    def test_0_ahead_of_the_number(self):
        self.assertEqual(answers([0, 5, 0, 5, 25]), [1, 0, 2, 0, 0, 2, 0, 0])

    def test_behind_some_steps(self):
        code = []
        for i in range(8):
            code.append(word(two(0o61, i, 0, 100 + i), two(0o71, i, 0, 200 + i)))
        for i in range(8):
            code.append(word(two(0o51, i, 0, 300 + i), NOTHING, NOTHING))
        loaded = [2 ** 59 + n for n in range(8)]
        found = numbers(begin(), load(0, code), load(300, loaded), run(16 + 24))
        self.assertEqual(found[0:8], [300 + n for n in range(8)])
        self.assertEqual(found[8:16], [0] + [100 + n for n in range(1, 8)])
        self.assertEqual(found[16:24], [200] + loaded[1:6] + [206, 207])
        self.assertEqual(found[24:], [16, 0])

    def test_a_below_0_and_beyond_memory(self):
        code = [word(two(0o51, 0, 0, ONES18 - 5), two(0o61, 7, 0, ONES18 - 6)), word(two(0o71, 3, 0, ONES18 - 7))]
        found = numbers(begin(), load(0, code), run(3))
        self.assertEqual([found[0], found[15], found[19]], [ONES18 - 5, ONES18 - 6, ONES60 - 7])

    def test_changes_nothing(self):
        once = numbers(begin(), *all_put())
        self.assertEqual(numbers(begin(), *all_put(), *get_all()), once)
        self.assertEqual(told(begin(), load(3, [4]), *get_all(), look(0, 9))[-1], [0, 0, 0, 0, 4, 0, 0, 0, 0, 0])

    def test_others_are_refused(self):
        for which in (26, 27, 32, 65536, MOST):
            self.assertEqual(told(begin(), get(which), get(25))[1:], [[-1], [0, 0]])


class Place(unittest.TestCase):
    """24 and 25."""

    def test_in_the_middle_of_a_word(self):
        for n in range(9):
            self.assertEqual(place(begin(), load(0, [FULL] * 3), run(n)), (n // 4, n % 4))

    def test_behind_two_parts(self):
        code = [word(two(0o71, 6, 0, 0), two(0o71, 6, 0, 0)), word(NOTHING, two(0o71, 6, 0, 0), NOTHING)]
        found = [place(begin(), load(0, code), run(n)) for n in range(6)]
        self.assertEqual(found, [(0, 0), (0, 2), (1, 0), (1, 1), (1, 3), (2, 0)])

    def test_behind_a_jump(self):
        for jump in (two(0o02, 0, 0, 300), two(0o03, 0, 0, 300), two(0o04, 0, 0, 300), two(0o06, 0, 0, 300),
                     two(0o01, 0, 0, 299)):
            for ahead in range(3):
                code = [word(*[NOTHING] * ahead, jump)]
                self.assertEqual(place(begin(), load(0, code), run(ahead + 1)), (300, 0))

    def test_behind_a_jump_that_is_not_taken(self):
        for ahead, behind in ((0, (0, 2)), (1, (0, 3)), (2, (1, 0))):
            for jump in (two(0o03, 1, 0, 300), two(0o05, 0, 0, 300), two(0o07, 0, 0, 300)):
                code = [word(*[NOTHING] * ahead, jump)]
                self.assertEqual(place(begin(), load(0, code), run(ahead + 1)), behind)

    def test_behind_the_last_word(self):
        for code, n in ((FULL, 4), (word(NOTHING, NOTHING, two(0o71, 6, 0, 0)), 3)):
            for more in (0, 5):
                self.assertEqual(place(begin(), load(65535, [code]), put(24, 65535), run(n + more)), (65536, 0))
        self.assertEqual(place(begin(), load(65535, [FULL]), put(24, 65535), run(3)), (65535, 3))

    def test_behind_01_to_the_last_word(self):
        self.assertEqual(place(begin(), load(0, [word(two(0o01, 0, 0, 65535))]), run(9)), (65536, 0))

    def test_behind_a_jump_to_a_word_that_there_is_not(self):
        for K in (65536, 65537, 131072, ONES18 - 1, ONES18):
            for n in (1, 2, 99):
                self.assertEqual(place(begin(), load(0, [word(two(0o04, 0, 0, K))]), run(n)), (K, 0))
        self.assertEqual(place(begin(), load(0, [word(two(0o02, 3, 0, 131071))]), put(11, 131071), run(9)), (262142, 0))
        self.assertEqual(place(begin(), load(0, [word(two(0o02, 3, 0, ONES18))]), put(11, ONES18), run(9)), (ONES18, 0))
        self.assertEqual(place(begin(), load(0, [word(two(0o02, 3, 0, ONES18))]), put(11, 7), run(1)), (7, 0))

    def test_behind_a_step_that_cannot_be_done(self):
        for failing in (STOP, two(0o01, 0, 0, 65536), two(0o01, 1, 0, 9), two(0o51, 1, 0, 65536), two(0o51, 7, 0, 65536),
                        one(0o56, 3, 7, 7)):
            for ahead in range(3):
                code = [word(*[NOTHING] * ahead, failing)]
                before = (begin(), *all_put(), put(15, 65536), put(24, 50), load(50, code))
                changed = expected({15: 65536, 24: 50, 25: ahead})
                self.assertEqual(numbers(*before, run(99)), changed)
                self.assertEqual(numbers(*before, run(99), run(99)), changed)

    def test_behind_two_parts_in_the_last(self):
        code = [word(NOTHING, NOTHING, NOTHING, one(0o61, 3, 0, 0)), FULL]
        self.assertEqual(numbers(begin(), *all_put(), put(24, 50), load(50, code), run(99)), expected({24: 50, 25: 3}))


class Put(unittest.TestCase):
    def test_each_alone(self):
        for which in range(25):
            for value in (1, 5, 2 ** 17, ONES18, 0):
                result = told(begin(), put(which, 77), put(which, value))
                self.assertEqual(result[1:], [[0], [0]])
                found = numbers(begin(), put(which, 77), put(which, value))
                self.assertEqual(found, [value if n == which and n != 8 else 0 for n in range(26)])

    def test_all(self):
        self.assertEqual(numbers(begin(), *all_put()), expected())

    def test_the_lower_18_bits(self):
        for which in [*range(8), *range(9, 16), 24]:
            for value in (ONES18, 2 ** 18, 2 ** 18 + 5, 2 ** 60 + 7, 2 ** 63 + 2 ** 17, MOST_VALUE):
                self.assertEqual(numbers(begin(), put(which, value))[which], value % 2 ** 18)

    def test_the_lower_60_bits(self):
        for which in range(16, 24):
            for value in (2 ** 18, 2 ** 59, ONES60, 2 ** 60, 2 ** 60 + 5, 2 ** 63 + 2 ** 59 + 1, MOST_VALUE):
                self.assertEqual(numbers(begin(), put(which, value))[which], value % 2 ** 60)

    def test_b0_stays_0(self):
        for value in (0, 1, ONES18, MOST_VALUE):
            self.assertEqual(told(begin(), put(8, value), get(8))[1:], [[0], [0, 0]])
            self.assertEqual(numbers(begin(), *all_put(), put(8, value)), expected())

    def test_24_in_the_middle_of_a_word(self):
        for n in range(1, 4):
            for at in (0, 1, 9, 65535, 65536, ONES18):
                result = told(begin(), load(0, [FULL]), run(n), get(25), put(24, at), get(24), get(25))
                self.assertEqual(result[3:], [[0, n], [0], [0, at], [0, 0]])

    def test_the_others_leave_the_place_as_it_was(self):
        for which in range(24):
            self.assertEqual(place(begin(), load(0, [FULL] * 2), run(6), put(which, 9)), (1, 2))

    def test_a_leaves_x_and_memory_as_they_were(self):
        memory = [1000 + n for n in range(30)]
        for which in range(8):
            for value in (0, 20, 65535, 65536, ONES18):
                calls = (begin(), *all_put(), load(0, memory), put(which, value))
                self.assertEqual(numbers(*calls), expected({which: value}))
                self.assertEqual(told(*calls, look(0, 65536))[-1], [0] + memory + [0] * (65536 - 30))

    def test_others_are_refused(self):
        code = [word(NOTHING, NOTHING, STOP)]
        for which in (25, 26, 27, 32, 65536, MOST):
            for value in (0, 1, 3, MOST_VALUE):
                calls = (begin(), *all_put(), put(24, 0), load(0, code), run(1), put(which, value))
                self.assertEqual(told(*calls)[-1], [-1])
                self.assertEqual(numbers(*calls), expected({24: 0, 25: 1}))
                self.assertEqual(told(*calls, look(0, 65536))[-1], [0] + code + [0] * 65535)

    def test_a_refusal_is_its_number_alone(self):
        self.assertEqual(answers([0, 6, 25, 1, 5, 26, 6, 24, 1]), [1, 0, 1, -1, 1, -1, 1, 0])

    def test_begin_makes_all_0(self):
        self.assertEqual(numbers(begin(), *all_put(), begin()), [0] * 26)
        self.assertEqual(numbers(begin(), load(0, [FULL]), run(3), begin()), [0] * 26)


class RunBehindPut(unittest.TestCase):
    def test_x_is_used(self):
        for j in range(8):
            for k in range(8):
                result = told(begin(), load(0, [word(one(0o37, 0, j, k))]), put(16 + k, 30), put(16 + j, 2 ** 60 + 100),
                              run(1), get(16))
                self.assertEqual(result[-1], [0, 0 if j == k else 70])

    def test_a_and_b_are_used(self):
        for j in range(8):
            for k in range(8):
                result = told(begin(), load(0, [word(one(0o75, 0, j, k))]), put(j, 2 ** 18 + 100), put(8 + k, 30), run(1),
                              get(16), get(8 + k))
                self.assertEqual(result[4:], [[1], [0, 70 if k else 100], [0, 30 if k else 0]])

    def test_an_address_from_an_a_that_was_put(self):
        code = [word(two(0o50, 1, 2, 5), two(0o50, 6, 2, 6))]
        result = told(begin(), load(0, code), load(105, [77]), put(2, 100), put(22, 88), run(2), get(1), get(17), get(6),
                      look(105, 2))
        self.assertEqual(result[5:], [[2], [0, 105], [0, 77], [0, 106], [0, 77, 88]])

    def test_a_store_behind_an_x_that_was_put(self):
        result = told(begin(), load(0, [word(two(0o51, 7, 0, 9))]), put(23, MOST_VALUE), run(1), look(9, 1))
        self.assertEqual(result[-1], [0, ONES60])

    def test_goes_on_at_the_word_that_was_put(self):
        code = [word(two(0o71, 1, 0, 5), NOTHING, STOP)]
        result = told(begin(), load(400, code), load(0, [FULL]), run(2), put(24, 2 ** 18 + 400), run(9), why(), get(17),
                      get(24), get(25))
        self.assertEqual(result[3:], [[2], [0], [2], [1], [0, 5], [0, 400], [0, 3]])

    def test_goes_on_behind_a_stop(self):
        result = told(begin(), run(5), load(1, [FULL]), put(24, 1), run(99), why())
        self.assertEqual(result[1:], [[0], [0], [0], [4], [1]])

    def test_a_word_that_there_is_not(self):
        for at in (65536, 65537, 131072, ONES18, MOST_VALUE):
            result = told(begin(), load(0, [FULL] * 9), put(24, at), run(5), why(), get(24), get(25), run(0), why(),
                          put(24, 0), run(5), why())
            self.assertEqual(result[2:], [[0], [0], [2], [0, at % 2 ** 18], [0, 0], [0], [0], [0], [5], [0]])

    def test_the_last_word(self):
        result = told(begin(), load(65535, [word(NOTHING, STOP)]), put(24, 65535), run(5), why(), get(24), get(25))
        self.assertEqual(result[2:], [[0], [1], [1], [0, 65535], [0, 1]])


if __name__ == "__main__":
    unittest.main()
