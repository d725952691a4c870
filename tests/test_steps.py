"""A step: how instructions lie in a word, what can't be done, in which order, and that nothing changes then."""

import unittest

from tests.helper import (DATA, NOTHING, ONES18, OUT, STOP, State, begin, closing, load, look, one, prelude,
                          run, told, two, word, words_of)

TWO_PARTS = (0o01, 0o02, 0o03, 0o04, 0o05, 0o06, 0o07, 0o50, 0o51, 0o52, 0o60, 0o61, 0o62, 0o70, 0o71, 0o72)
X = {n: 1000 + n for n in range(8)}
B = {n: 2000 + n for n in range(1, 8)}


def done_alone(words, n=9, at=0):
    """How many steps are done of these words, laid down from at on, where the machine is led first."""
    if at == 0:
        return told(begin(), load(0, words), run(n))[2][0]
    result = told(begin(), load(0, [word(two(0o02, 0, 0, at))]), load(at, words), run(1), run(n))
    assert result[3] == [1]
    return result[4][0]


class PartsOfAWord(unittest.TestCase):
    def test_the_highest_part_first(self):
        code = [word(one(0o43, 6, 0, 1), one(0o43, 7, 0, 2), one(0o11, 6, 6, 7), one(0o47, 6, 0, 6))]
        code += [word(two(0o51, 6, 0, 20))]
        result = told(begin(), load(0, code), run(5), look(20, 1))
        self.assertEqual(result[2:], [[5], [0, 1]])

    def test_two_parts_in_each_of_the_three_places(self):
        for ahead in range(3):
            parts = [NOTHING] * ahead + [two(0o71, 6, 0, 0o234567)] + [NOTHING] * (2 - ahead)
            result = told(begin(), load(0, [word(*parts), word(two(0o51, 6, 0, 20))]), run(9), look(20, 1))
            self.assertEqual(result[2:], [[4], [0, 0o234567]])

    def test_each_number_has_its_parts(self):
        # Behind the one instruction only 46 follows, so the steps of a word tell how many parts it took.
        for fm in range(0o02, 0o100):
            code = [word(one(fm, 0, 0, 0), NOTHING, NOTHING, NOTHING), 0]
            if fm in (0o02, 0o03, 0o04, 0o06):
                continue
            with self.subTest(fm=oct(fm)):
                steps = 3 if fm in TWO_PARTS else 4
                self.assertEqual(done_alone(code, at=300), steps)

    def test_goes_from_word_to_word(self):
        code = [word(NOTHING, NOTHING, NOTHING, NOTHING)] * 50 + [word(NOTHING, STOP)]
        self.assertEqual(done_alone(code, n=1000), 201)

    def test_what_is_stored_ahead_is_done(self):
        # The store writes over the rest of its own word.
        code = [word(two(0o51, 1, 0, 20), one(0o10, 6, 1, 1), NOTHING), word(two(0o51, 6, 0, 1), STOP)]
        new = word(NOTHING, NOTHING, two(0o51, 7, 0, 30))
        result = told(begin(), load(0, code), load(20, [new]), run(9), look(1, 1))
        self.assertEqual(result[3:], [[5], [0, new]])


class CannotBeDone(unittest.TestCase):
    def test_1_it_is_00(self):
        self.assertEqual(done_alone([0]), 0)
        self.assertEqual(done_alone([word(one(0o00, 7, 7, 7), NOTHING, NOTHING, NOTHING)]), 0)
        self.assertEqual(done_alone([word(NOTHING, NOTHING, NOTHING, STOP)]), 3)

    def test_2_no_word_behind_the_last(self):
        self.assertEqual(done_alone([word(NOTHING, NOTHING, NOTHING, NOTHING)], at=65535), 4)
        self.assertEqual(done_alone([word(NOTHING, NOTHING, two(0o71, 6, 0, 0))], at=65535), 3)

    def test_2_no_word_to_go_on_at(self):
        for at in (65536, 65537, 131072, ONES18 - 1):
            self.assertEqual(done_alone([word(two(0o02, 0, 0, at))]), 1)
            self.assertEqual(done_alone([word(two(0o04, 0, 0, at))]), 1)
        self.assertEqual(done_alone([word(two(0o04, 0, 0, ONES18))]), 1)
        self.assertEqual(done_alone([word(two(0o02, 0, 0, 65535))]), 1)

    def test_2_no_word_of_01(self):
        for at in (65536, 131072, ONES18):
            self.assertEqual(done_alone([word(two(0o01, 0, 0, at))]), 0)

    def test_2_no_word_of_50_to_57(self):
        for i in range(1, 8):
            self.assertEqual(done_alone([word(two(0o51, i, 0, 65535), two(0o51, i, 0, 65536))]), 1)
            self.assertEqual(done_alone([word(two(0o51, i, 0, ONES18 - 1))]), 0)

    def test_3_two_parts_in_the_last(self):
        for fm in TWO_PARTS:
            for i in (0, 1, 7):
                with self.subTest(fm=oct(fm), i=i):
                    code = [word(NOTHING, NOTHING, NOTHING, one(fm, i, 0, 0)), word(NOTHING, NOTHING, STOP)]
                    self.assertEqual(done_alone(code), 3)

    def test_3_is_of_those_with_two_parts_alone(self):
        for fm in range(0o10, 0o100):
            if fm not in TWO_PARTS:
                with self.subTest(fm=oct(fm)):
                    code = [word(NOTHING, NOTHING, NOTHING, one(fm, 0, 0, 0)), word(NOTHING, NOTHING, STOP)]
                    self.assertEqual(done_alone(code), 6)

    def test_4_01_with_i_not_0(self):
        for i in range(1, 8):
            self.assertEqual(done_alone([word(two(0o01, i, 0, 9))]), 0)
            self.assertEqual(done_alone([word(two(0o01, i, 0, 65536))]), 0)
        self.assertEqual(done_alone([word(two(0o01, 0, 5, 9))]), 1)


class Order(unittest.TestCase):
    """More than one reason at once: the step fails whichever comes first, and nothing is done of the others."""

    def test_no_word_comes_ahead_of_what_would_stand_there(self):
        # Were the address cut to memory's size, word 0 would be done again.
        self.assertEqual(done_alone([word(two(0o02, 0, 0, 65536))], n=50), 1)
        self.assertEqual(done_alone([word(two(0o02, 0, 0, 65536 * 3))], n=50), 1)

    def test_3_comes_ahead_of_an_address_that_there_is_not(self):
        last = [word(NOTHING, NOTHING, NOTHING, one(0o51, 6, 0, 7)), word((0o77777,), NOTHING, STOP)]
        result = told(begin(), load(0, last), run(9), run(9), look(0, 2))
        self.assertEqual(result[2:], [[3], [0], [0] + last])

    def test_3_comes_ahead_of_01_with_i_not_0(self):
        last = [word(NOTHING, NOTHING, NOTHING, one(0o01, 3, 0, 0)), word((5,), NOTHING, STOP)]
        result = told(begin(), load(0, last), run(9), run(9), look(0, 7))
        self.assertEqual(result[2:], [[3], [0], [0] + last + [0] * 5])

    def test_3_comes_ahead_of_01_itself(self):
        last = [word(NOTHING, NOTHING, NOTHING, one(0o01, 0, 0, 0)), word((5,), NOTHING, STOP)]
        result = told(begin(), load(0, last), run(9), run(9), look(0, 7))
        self.assertEqual(result[2:], [[3], [0], [0] + last + [0] * 5])


class NothingChanges(unittest.TestCase):
    def held(self, failing, place):
        """What the calls answer when this instruction comes behind the prelude, in that part of its word."""
        ahead, data = prelude(X, B, 0o765432)
        code = words_of(ahead)
        bad = words_of([NOTHING] * place + [failing])[0] if place < 3 else word(*[NOTHING] * 3, failing)
        # Where the machine must still be, a way to the closing piece is laid down for it.
        way = two(0o04, 0, 0, 1000)
        mended = words_of([STOP] * place + [way]) if place < 3 else words_of([STOP] * 3 + [NOTHING, way])
        return told(begin(), load(0, code + [bad]), load(DATA, data), load(1000, words_of(closing())),
                    look(0, 65536), run(10000), run(1), run(10000), look(0, 65536),
                    load(len(code), mended), run(10000), look(OUT, 24))

    def check(self, failing, place):
        """The step fails again and again; X, A, B, memory and the machine's place are as before."""
        result = self.held(failing, place)
        self.assertEqual(result[6:8], [[0], [0]])
        self.assertEqual(result[4], result[8])
        state = State(result[-1][1:])
        self.assertEqual(state.x, [1000 + n for n in range(8)])
        self.assertEqual(state.b, [0] + [2000 + n for n in range(1, 8)])
        self.assertEqual(state.a, self.plain_a())

    def plain_a(self):
        """A0 to A6 when nothing but the prelude has set them."""
        count = len(B) + 1 + 3
        return [0o765432] + [DATA + count + n for n in range(5)] + [0]

    def test_00(self):
        for place in range(4):
            self.check(STOP, place)

    def test_01_beyond_memory(self):
        for place in range(3):
            self.check(two(0o01, 0, 0, 65536), place)

    def test_01_with_i_not_0(self):
        for place in range(3):
            self.check(two(0o01, 2, 0, 77), place)

    def test_a_set_beyond_memory(self):
        for i in range(1, 8):
            with self.subTest(i=i):
                self.check(two(0o50, i, 0, 0), i % 3)
                self.check(two(0o51, i, 0, 65536), i % 3)
                self.check(two(0o52, i, 1, ONES18 - 1001 - 3), i % 3)
                self.check(one(0o54, i, 0, 1), i % 3)
                self.check(one(0o55, i, 0, 1), i % 3)
                self.check(one(0o57, i, 1, 2), i % 3)

    def test_two_parts_in_the_last(self):
        for fm in TWO_PARTS:
            self.check(one(fm, 6, 0, 0), 3)

    def test_behind_the_last_word(self):
        code = [word(NOTHING, NOTHING, NOTHING, NOTHING)]
        result = told(begin(), load(0, [word(two(0o02, 0, 0, 65535))]), load(65535, code), run(9), run(9), run(9),
                      look(0, 65536))
        self.assertEqual(result[3:6], [[5], [0], [0]])
        self.assertEqual(result[6][2:-1], [0] * 65534)


if __name__ == "__main__":
    unittest.main()
