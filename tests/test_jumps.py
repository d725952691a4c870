"""The instructions 00 to 07."""

import unittest

from tests.helper import (DATA, INDEFINITE, INFINITE, MARK, NOTHING, ONES18, ONES60, STOP, TARGET, after, begin, below,
                          load, look, negative, number, one, prelude, run, told, two, went_on, word, words_of)


class WayBack(unittest.TestCase):
    """01."""

    def test_the_word_at_K(self):
        result = told(begin(), load(0, [word(two(0o01, 0, 0, 100), NOTHING)]), load(100, [ONES60]), run(1),
                      look(100, 1))
        self.assertEqual(result[4], [0, 0o04000000010000000000])

    def test_the_word_behind_from_each_part(self):
        for place in range(3):
            parts = [NOTHING] * place + [two(0o01, 0, 0, 100)]
            code = [word(two(0o02, 0, 0, 0o1234)), word(*parts)]
            result = told(begin(), load(0, code[:1]), load(0o1234, code[1:]), run(2 + place), look(100, 1), run(9))
            self.assertEqual(result[3:], [[2 + place], [0, 0o04000012350000000000], [0]])

    def test_on_at_the_word_behind_K_and_back(self):
        code = [word(NOTHING, two(0o01, 0, 0, 100)), word(two(0o71, 6, 0, 8), two(0o51, 6, 0, 21))]
        piece = [0, word(two(0o71, 6, 0, 7), two(0o51, 6, 0, 20)), word(two(0o04, 0, 0, 100))]
        result = told(begin(), load(0, code), load(100, piece), run(99), look(20, 2))
        self.assertEqual(result[3:], [[8], [0, 7, 8]])

    def test_j_does_not_count(self):
        result = told(begin(), load(0, [word(two(0o01, 0, 7, 100))]), run(9), look(100, 1))
        self.assertEqual(result[2:], [[1], [0, 0o04000000010000000000]])

    def test_its_own_word(self):
        result = told(begin(), load(0, [word(two(0o01, 0, 0, 0), NOTHING, NOTHING), word(NOTHING, STOP)]), run(9),
                      look(0, 1))
        self.assertEqual(result[2:], [[2], [0, 0o04000000010000000000]])

    def test_the_last_word_of_memory(self):
        result = told(begin(), load(0, [word(two(0o01, 0, 0, 65535), NOTHING)]), run(9), run(9), look(65535, 1))
        self.assertEqual(result[2:], [[1], [0], [0, 0o04000000010000000000]])

    def test_from_the_last_word_of_memory(self):
        code = [word(two(0o01, 0, 0, 100))]
        result = told(begin(), load(0, [word(two(0o02, 0, 0, 65535))]), load(65535, code),
                      load(101, [word(two(0o04, 0, 0, 100))]), run(9), look(100, 1))
        self.assertEqual(result[4:], [[4], [0, 0o04002000000000000000]])

    def test_K_beyond_memory(self):
        for K in (65536, 65636, ONES18):
            code = [word(two(0o01, 0, 0, K), NOTHING), 0, 0]
            result = told(begin(), load(0, code), run(9), run(9), look(0, 200))
            self.assertEqual(result[2:], [[0], [0], [0] + code + [0] * 197])

    def test_i_not_0(self):
        for i in range(1, 8):
            code = [word(two(0o01, i, 0, 100), NOTHING), 0, 0]
            result = told(begin(), load(0, code), run(9), run(9), look(0, 200))
            self.assertEqual(result[2:], [[0], [0], [0] + code + [0] * 197])


class FromB(unittest.TestCase):
    """02."""

    def test_b_and_K(self):
        self.assertTrue(went_on(two(0o02, 0, 0, TARGET)))
        self.assertTrue(went_on(two(0o02, 3, 0, TARGET - 5), b={3: 5}))
        self.assertTrue(went_on(two(0o02, 3, 0, TARGET + 5), b={3: below(5)}))
        self.assertTrue(went_on(two(0o02, 3, 0, below(5)), b={3: TARGET + 5}))
        self.assertTrue(went_on(two(0o02, 3, 5, TARGET - 5), b={3: 5, 5: 77}))

    def test_zeros(self):
        self.assertTrue(went_on(two(0o02, 3, 0, TARGET), b={3: ONES18}))
        self.assertTrue(went_on(two(0o02, 3, 0, ONES18), b={3: TARGET}))

    def test_0_and_all_ones_is_0(self):
        self.assertEqual(told(begin(), load(0, [word(two(0o02, 0, 0, ONES18))]), run(50))[2], [50])

    def test_all_ones_twice_is_all_ones(self):
        ahead, data = prelude({}, {1: ONES18}, 0)
        code = words_of(ahead + [two(0o02, 1, 0, ONES18)])
        steps = len(ahead)
        result = told(begin(), load(0, code), load(DATA, data), run(10000), run(1))
        self.assertGreaterEqual(result[3][0], steps + 1)
        self.assertLess(result[3][0], 1000)
        self.assertEqual(result[4], [0])

    def test_a_number_and_its_complement(self):
        ahead, data = prelude({}, {1: 7}, 0)
        # At 0 there is the prelude again: it goes round and round.
        result = told(begin(), load(0, words_of(ahead + [two(0o02, 1, 0, below(7))])), load(DATA, data), run(5000))
        self.assertEqual(result[3], [5000])


class ByX(unittest.TestCase):
    """03."""

    WORDS = {
        "0": 0,
        "-0": ONES60,
        "1": 1,
        "-1": negative(1),
        "most": 2 ** 59 - 1,
        "least": 2 ** 59,
        "infinite": INFINITE,
        "-infinite": negative(INFINITE),
        "infinite with c": INFINITE + 5,
        "-infinite with c": negative(INFINITE + 5),
        "indefinite": INDEFINITE,
        "-indefinite": negative(INDEFINITE),
        "indefinite with c": INDEFINITE + 5,
        "-indefinite with c": negative(INDEFINITE + 5),
        "near infinite": number(2 ** 48 - 1, 1022),
        "near indefinite": number(2 ** 48 - 1, -1),
        "e 0": number(0, 0),
    }

    def holding(self, i):
        return {name for name, value in self.WORDS.items() if went_on(two(0o03, i, 4, TARGET), x={4: value})}

    def check(self, i, names):
        others = set(self.WORDS) - set(names)
        self.assertEqual(self.holding(i), set(names))
        self.assertEqual(self.holding(i + 1), others)

    def test_0_and_1_zero(self):
        self.check(0, ["0", "-0"])

    def test_2_and_3_highest_bit(self):
        self.check(2, ["0", "1", "most", "infinite", "infinite with c", "indefinite", "indefinite with c",
                       "near infinite", "near indefinite", "e 0"])

    def test_4_and_5_infinite(self):
        infinite = {"infinite", "-infinite", "infinite with c", "-infinite with c", "most", "least"}
        self.check(4, set(self.WORDS) - infinite)

    def test_6_and_7_indefinite(self):
        indefinite = {"indefinite", "-indefinite", "indefinite with c", "-indefinite with c"}
        self.check(6, set(self.WORDS) - indefinite)

    def test_K_is_taken_as_it_is(self):
        result = told(begin(), load(0, [word(two(0o03, 0, 0, ONES18))]), run(50), run(1))
        self.assertEqual(result[2:], [[1], [0]])

    def test_each_x(self):
        for j in range(8):
            self.assertTrue(went_on(two(0o03, 1, j, TARGET), x={j: 3}))
            self.assertFalse(went_on(two(0o03, 0, j, TARGET), x={j: 3}))


class ByB(unittest.TestCase):
    """04 to 07."""

    def check(self, left, right, same, less):
        b = {2: left, 5: right}
        found = [went_on(two(fm, 2, 5, TARGET), b=b) for fm in (0o04, 0o05, 0o06, 0o07)]
        self.assertEqual(found, [same, not same, not less, less], (left, right))

    def test_same_and_other(self):
        self.check(7, 7, True, False)
        self.check(7, 8, False, True)
        self.check(8, 7, False, False)
        self.check(below(7), below(7), True, False)
        self.check(below(8), below(7), False, True)
        self.check(below(7), below(8), False, False)
        self.check(below(1), 1, False, True)
        self.check(1, below(1), False, False)

    def test_zeros(self):
        self.check(0, 0, True, False)
        self.check(0, ONES18, True, False)
        self.check(ONES18, ONES18, True, False)
        # -0 less 0 is -0, and that has its highest bit.
        self.check(ONES18, 0, True, True)
        self.check(ONES18, 3, False, True)
        self.check(3, ONES18, False, False)

    def test_differences_beyond_17_bits(self):
        self.check(2 ** 17 - 1, below(1), False, True)
        self.check(below(2 ** 17 - 1), 1, False, False)
        self.check(2 ** 17 - 1, below(2 ** 17 - 1), False, True)

    def test_b0(self):
        self.assertTrue(went_on(two(0o04, 0, 0, TARGET)))
        self.assertFalse(went_on(two(0o05, 0, 0, TARGET)))
        self.assertTrue(went_on(two(0o06, 0, 0, TARGET)))
        self.assertFalse(went_on(two(0o07, 0, 0, TARGET)))
        self.assertTrue(went_on(two(0o07, 0, 3, TARGET), b={3: 1}))
        self.assertTrue(went_on(two(0o07, 3, 0, TARGET), b={3: below(1)}))

    def test_K_is_taken_as_it_is(self):
        result = told(begin(), load(0, [word(two(0o06, 0, 0, ONES18))]), run(50), run(1))
        self.assertEqual(result[2:], [[1], [0]])


class FirstPart(unittest.TestCase):
    def test_on_at_a_words_first_part(self):
        jumps = (two(0o02, 0, 0, 50), two(0o03, 0, 0, 50), two(0o04, 0, 0, 50), two(0o06, 0, 0, 50))
        for jump in jumps:
            for place in range(3):
                code = [word(*[NOTHING] * place, jump)]
                result = told(begin(), load(0, code), load(50, [word(NOTHING, NOTHING, NOTHING, STOP)]), run(99))
                self.assertEqual(result[3], [place + 1 + 3])

    def test_a_jump_changes_nothing_else(self):
        b = {n: n * 100 for n in range(1, 8)}
        x = {n: n * 1000 for n in range(8)}
        jumps = [two(0o05, 0, 0, TARGET), two(0o07, 7, 1, TARGET), two(0o03, 0, 7, TARGET)]
        state = after(jumps, x=x, b=b)
        self.assertEqual(state.b, [n * 100 for n in range(8)])
        self.assertEqual(state.x, [n * 1000 for n in range(8)])


class Stop(unittest.TestCase):
    """00."""

    def test_nothing_is_done_behind_it(self):
        code = [word(one(0o00, 3, 4, 5), NOTHING, two(0o51, 6, 0, MARK))]
        result = told(begin(), load(0, code), run(9), look(MARK, 1))
        self.assertEqual(result[2:], [[0], [0, 0]])


if __name__ == "__main__":
    unittest.main()
