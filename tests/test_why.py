"""Point 4: why the last run ended, by its number, and in which order that is looked at."""

import unittest

from tests.helper import MOST, NOTHING, ONES18, STOP, begin, get, load, look, one, put, run, told, two, why, word

TWO_PARTS = (0o01, 0o02, 0o03, 0o04, 0o05, 0o06, 0o07, 0o50, 0o51, 0o52, 0o60, 0o61, 0o62, 0o70, 0o71, 0o72)
HERE_AGAIN = word(two(0o04, 0, 0, 0))
FULL = word(NOTHING, NOTHING, NOTHING, NOTHING)
CUT_OFF = word(NOTHING, NOTHING, NOTHING, one(0o71, 6, 0, 0))
NO_SUCH = word(two(0o01, 3, 0, 9))

# A word 0 for each reason.
REASONS = {1: 0, 2: word(two(0o01, 0, 0, 65536)), 3: CUT_OFF, 4: NO_SUCH}


def ended(words, n=99, at=0):
    """How many steps are done of these words, laid down from at on and begun there, and why that ended."""
    result = told(begin(), load(at, words), put(24, at), run(n), why())
    return (result[3][0], result[4][0])


class Nothing(unittest.TestCase):
    """0."""

    def test_before_any_run(self):
        self.assertEqual(told(begin(), why())[1], [0])
        self.assertEqual(told(begin(), load(0, [NO_SUCH]), put(24, 70000), why())[3], [0])

    def test_all_steps_were_done(self):
        self.assertEqual(ended([HERE_AGAIN], 1), (1, 0))
        self.assertEqual(ended([HERE_AGAIN], 1000), (1000, 0))

    def test_the_last_step_before_one_that_cannot_be_done(self):
        for code in (word(NOTHING, STOP), word(NOTHING, two(0o01, 0, 0, 65536)), word(NOTHING, two(0o01, 5, 0, 0))):
            self.assertEqual(ended([code], 1), (1, 0))
            self.assertEqual(ended([code], 2)[0], 1)
            self.assertNotEqual(ended([code], 2)[1], 0)
        self.assertEqual(ended([CUT_OFF], 3), (3, 0))
        self.assertEqual(ended([FULL], 4, at=65535), (4, 0))

    def test_n_0(self):
        for code in REASONS.values():
            self.assertEqual(ended([code], 0), (0, 0))

    def test_n_0_behind_a_reason(self):
        for reason, code in REASONS.items():
            result = told(begin(), load(0, [code]), run(99), why(), run(0), why(), run(1), why())
            self.assertEqual(result[3], [reason])
            self.assertEqual(result[4:], [[0], [0], [0], [reason]])

    def test_all_steps_behind_a_reason(self):
        result = told(begin(), run(5), why(), load(0, [HERE_AGAIN]), run(5), why())
        self.assertEqual(result[1:], [[0], [1], [0], [5], [0]])


class Stopped(unittest.TestCase):
    """1."""

    def test_00(self):
        self.assertEqual(ended([0]), (0, 1))
        self.assertEqual(ended([word(one(0o00, 7, 7, 7))]), (0, 1))

    def test_in_each_part(self):
        for ahead in range(4):
            self.assertEqual(ended([word(*[NOTHING] * ahead, STOP)]), (ahead, 1))

    def test_in_the_last_word(self):
        self.assertEqual(ended([0], at=65535), (0, 1))


class NoWord(unittest.TestCase):
    """2."""

    def test_of_the_instruction_behind_the_last_word(self):
        self.assertEqual(ended([FULL], at=65535), (4, 2))
        self.assertEqual(ended([word(NOTHING, NOTHING, two(0o71, 6, 0, 0))], at=65535), (3, 2))

    def test_of_the_instruction_behind_a_jump(self):
        for K in (65536, 65537, 131072, ONES18):
            self.assertEqual(ended([word(two(0o04, 0, 0, K))]), (1, 2))
            self.assertEqual(ended([word(two(0o03, 0, 0, K))]), (1, 2))
        for K in (65536, 131072, ONES18 - 1):
            self.assertEqual(ended([word(two(0o02, 0, 0, K))]), (1, 2))
        self.assertEqual(ended([word(two(0o04, 0, 0, 65535))]), (1, 1))

    def test_of_the_instruction_behind_01_to_the_last_word(self):
        self.assertEqual(ended([word(two(0o01, 0, 0, 65535))]), (1, 2))

    def test_of_01(self):
        for K in (65536, 65537, 131072, ONES18):
            self.assertEqual(ended([word(two(0o01, 0, 0, K))]), (0, 2))
            self.assertEqual(ended([word(NOTHING, NOTHING, two(0o01, 0, 7, K))]), (2, 2))

    def test_of_50_to_57(self):
        for i in range(1, 8):
            for instruction in (two(0o50, i, 0, 0), two(0o51, i, 0, 65536), two(0o52, i, 2, 0), one(0o53, i, 2, 0),
                                one(0o54, i, 0, 0), one(0o55, i, 0, 0), one(0o56, i, 3, 0), one(0o57, i, 3, 0)):
                with self.subTest(instruction=instruction):
                    result = told(begin(), load(0, [word(instruction)]), put(0, 65536), put(11, 65536),
                                  put(18, 65536), run(9), why())
                    self.assertEqual(result[5:], [[0], [2]])

    def test_a0_may_be_any(self):
        for K in (65536, ONES18 - 1):
            self.assertEqual(ended([word(two(0o51, 0, 0, K))]), (1, 1))


class CutOff(unittest.TestCase):
    """3."""

    def test_each_of_two_parts(self):
        for fm in TWO_PARTS:
            for i in range(8):
                with self.subTest(fm=oct(fm), i=i):
                    self.assertEqual(ended([word(NOTHING, NOTHING, NOTHING, one(fm, i, 0, 0)), FULL]), (3, 3))

    def test_in_the_last_word(self):
        self.assertEqual(ended([CUT_OFF], at=65535), (3, 3))

    def test_those_of_one_part_are_not_cut_off(self):
        for fm in range(0o10, 0o100):
            if fm not in TWO_PARTS:
                with self.subTest(fm=oct(fm)):
                    self.assertEqual(ended([word(NOTHING, NOTHING, NOTHING, one(fm, 0, 0, 0)), 0]), (4, 1))
        self.assertEqual(ended([word(NOTHING, NOTHING, NOTHING, STOP)]), (3, 1))


class NoInstruction(unittest.TestCase):
    """4."""

    def test_01_with_i_not_0(self):
        for i in range(1, 8):
            for ahead in range(3):
                self.assertEqual(ended([word(*[NOTHING] * ahead, two(0o01, i, 0, 9))]), (ahead, 4))
        self.assertEqual(ended([word(two(0o01, 0, 5, 9))]), (1, 1))

    def test_01_with_i_not_0_has_no_word_that_might_be_missing(self):
        for i in range(1, 8):
            self.assertEqual(ended([word(two(0o01, i, 0, 65536))]), (0, 4))

    def test_no_other(self):
        for fm in range(0o02, 0o100):
            for i in range(8):
                self.assertEqual(ended([word(one(fm, i, 0, 0), NOTHING, NOTHING, NOTHING)], 1), (1, 0))


class Order(unittest.TestCase):
    """Where more than one reason might be told."""

    def test_the_word_of_the_instruction_comes_first(self):
        # Were the place cut to memory's size, each of these words would be found at 0.
        for code in REASONS.values():
            for at in (65536, 131072, 196608):
                result = told(begin(), load(0, [code]), put(24, at), run(9), why())
                self.assertEqual(result[3:], [[0], [2]])

    def test_3_comes_ahead_of_2(self):
        # Read on into the next word, K would be beyond memory.
        behind = word((0o77777,), NOTHING, NOTHING, NOTHING)
        for part in (one(0o01, 0, 0, 7), one(0o50, 6, 0, 7), one(0o51, 1, 0, 7), one(0o52, 7, 0, 7)):
            self.assertEqual(ended([word(NOTHING, NOTHING, NOTHING, part), behind]), (3, 3))

    def test_3_comes_ahead_of_2_whatever_K_were(self):
        for fm, j in ((0o50, 1), (0o51, 3), (0o52, 2)):
            for i in range(1, 8):
                code = [word(NOTHING, NOTHING, NOTHING, one(fm, i, j, 0))]
                result = told(begin(), load(0, code), put(1, 70000), put(11, 70000), put(18, 70000), run(9), why())
                self.assertEqual(result[5:], [[3], [3]])

    def test_3_comes_ahead_of_4(self):
        for i in range(1, 8):
            for k in (0, 7):
                self.assertEqual(ended([word(NOTHING, NOTHING, NOTHING, one(0o01, i, 0, k)), FULL]), (3, 3))


class Kept(unittest.TestCase):
    """What leaves it as it was, and what doesn't."""

    def test_told_twice(self):
        for reason, code in REASONS.items():
            self.assertEqual(told(begin(), load(0, [code]), run(9), why(), why(), why())[3:], [[reason]] * 3)

    def test_a_refused_run(self):
        for reason, code in REASONS.items():
            for n in (10000001, MOST):
                result = told(begin(), load(0, [code]), run(9), run(n), why())
                self.assertEqual(result[3:], [[-1], [reason]])

    def test_a_refused_run_before_any(self):
        self.assertEqual(told(begin(), run(10000001), why())[1:], [[-1], [0]])

    def test_a_refused_run_behind_one_of_all_steps(self):
        result = told(begin(), load(0, [word(NOTHING, STOP)]), run(1), run(MOST), why())
        self.assertEqual(result[2:], [[1], [-1], [0]])

    def test_load_look_get_and_put(self):
        others = (load(0, [HERE_AGAIN]), load(0, []), load(65536, [1]), look(0, 3), look(0, 65537), get(24), get(26),
                  put(24, 0), put(24, 70000), put(16, 5), put(25, 0), put(26, 1))
        for reason, code in REASONS.items():
            for other in others:
                result = told(begin(), load(0, [code]), run(9), other, why())
                self.assertEqual(result[4], [reason])

    def test_load_look_get_and_put_behind_a_run_of_all_steps(self):
        result = told(begin(), load(0, [HERE_AGAIN]), run(3), load(0, [0]), look(0, 1), get(1), put(24, 70000), why())
        self.assertEqual(result[-1], [0])

    def test_begin_makes_it_0(self):
        for reason, code in REASONS.items():
            result = told(begin(), load(0, [code]), run(9), why(), begin(), why(), run(9), why())
            self.assertEqual(result[3:6], [[reason], [0], [0]])
            self.assertEqual(result[7], [1])

    def test_the_last_run_alone(self):
        result = told(begin(), load(0, [CUT_OFF]), run(9), why(), load(0, [0]), put(24, 0), run(9), why(),
                      load(0, [NO_SUCH]), run(9), why(), put(24, 65536), run(1), why())
        self.assertEqual([result[3], result[7], result[10], result[13]], [[3], [1], [4], [2]])


if __name__ == "__main__":
    unittest.main()
