"""Points 1, 2 and 3, and the interface: the list of calls, and the list of answers."""

import unittest

from sixtybit.machine import answers
from tests.helper import MEMORY, NOTHING, ONES60, STOP, begin, load, look, one, run, told, two, word

HERE_AGAIN = word(two(0o04, 0, 0, 0))


class Begin(unittest.TestCase):
    def test_answers_0(self):
        self.assertEqual(answers([0]), [1, 0])

    def test_memory_is_0(self):
        self.assertEqual(told(begin(), look(0, MEMORY))[1], [0] * (MEMORY + 1))

    def test_anew_makes_memory_0(self):
        result = told(begin(), load(7, [1, 2, 3]), begin(), look(6, 5))
        self.assertEqual(result, [[0], [0], [0], [0, 0, 0, 0, 0, 0]])

    def test_anew_goes_to_the_first_part_of_word_0(self):
        code = [word(NOTHING, NOTHING, STOP), 0]
        result = told(begin(), load(0, code), run(9), begin(), load(0, code), run(9))
        self.assertEqual([result[2], result[5]], [[2], [2]])

    def test_anew_makes_x_a_and_b_0(self):
        dirty = [word(two(0o61, 3, 0, 5), two(0o51, 6, 0, 5000)), word(two(0o51, 2, 0, 2), two(0o50, 0, 0, 77)), 123]
        store = []
        for n in range(8):
            store += [word(one(0o10, 6, n, n), two(0o51, 6, 0, 6000 + n), NOTHING)]
        for n in range(8):
            store += [word(one(0o74, 6, n, 0), two(0o51, 6, 0, 6020 + n), NOTHING)]
            store += [word(one(0o76, 6, n, 0), two(0o51, 6, 0, 6040 + n), NOTHING)]
        result = told(begin(), load(0, dirty), run(100), begin(), load(0, store), run(1000), look(6000, 60))
        self.assertEqual(result[2], [4])
        self.assertEqual(result[5], [4 * 24 - 24])
        # A6 alone is seen to be where the store before it went.
        expected = [0] * 60
        expected[20 + 6] = 6000 + 40 + 5
        self.assertEqual(result[6], [0] + expected)


class LoadAndLook(unittest.TestCase):
    def test_words_written_and_told(self):
        result = told(begin(), load(100, [5, 6, ONES60]), look(99, 5))
        self.assertEqual(result, [[0], [0], [0, 0, 5, 6, ONES60, 0]])

    def test_the_lower_60_bits(self):
        words = [2 ** 64 - 1, 2 ** 60, 2 ** 63 + 7, 2 ** 59]
        result = told(begin(), load(0, words), look(0, 4))
        self.assertEqual(result[2], [0, ONES60, 0, 7, 2 ** 59])

    def test_n_0(self):
        self.assertEqual(answers([0, 1, 5, 0, 2, 5, 0]), [1, 0, 1, 0, 1, 0])

    def test_the_last_word(self):
        result = told(begin(), load(65535, [9]), look(65535, 1))
        self.assertEqual(result, [[0], [0], [0, 9]])

    def test_just_at_the_end(self):
        result = told(begin(), load(65533, [7, 8, 9]), look(65532, 4))
        self.assertEqual(result[1:], [[0], [0, 0, 7, 8, 9]])

    def test_one_beyond_writes_nothing(self):
        result = told(begin(), load(65534, [7, 8, 9]), look(65534, 2), look(0, 3))
        self.assertEqual(result[1:], [[-1], [0, 0, 0], [0, 0, 0, 0]])

    def test_n_0_at_the_end_and_beyond(self):
        result = told(begin(), load(65536, []), load(65537, []), look(65536, 0), look(65537, 0))
        self.assertEqual(result[1:], [[0], [-1], [0], [-1]])

    def test_load_far_beyond(self):
        result = told(begin(), load(65536, [1]), load(4294967295, [1]), load(4294967295, []), look(0, 1))
        self.assertEqual(result[1:], [[-1], [-1], [-1], [0, 0]])

    def test_look_one_beyond(self):
        result = told(begin(), look(65535, 2), look(1, 65536), look(0, 65537))
        self.assertEqual(result[1:], [[-1], [-1], [-1]])

    def test_look_far_beyond(self):
        most = 4294967295
        result = told(begin(), look(most, 0), look(most, 1), look(0, most), look(most, most))
        self.assertEqual(result[1:], [[-1]] * 4)

    def test_a_refusal_is_its_number_alone(self):
        self.assertEqual(answers([0, 2, 65536, 1, 1, 65536, 1, 5, 3, 10000001]), [1, 0, 1, -1, 1, -1, 1, -1])


class Run(unittest.TestCase):
    def test_n_0(self):
        self.assertEqual(told(begin(), load(0, [HERE_AGAIN]), run(0))[2], [0])

    def test_all_steps(self):
        self.assertEqual(told(begin(), load(0, [HERE_AGAIN]), run(1), run(57))[2:], [[1], [57]])

    def test_fewer_steps(self):
        code = [word(NOTHING, NOTHING, NOTHING, STOP)]
        self.assertEqual(told(begin(), load(0, code), run(2), run(5), run(5))[2:], [[2], [1], [0]])

    def test_the_most_that_may_be_asked_for(self):
        code = [word(NOTHING, NOTHING, NOTHING, STOP)]
        self.assertEqual(told(begin(), load(0, code), run(10000000))[2], [3])

    def test_the_most_that_may_be_done(self):
        self.assertEqual(told(begin(), load(0, [HERE_AGAIN]), run(10000000))[2], [10000000])

    def test_more_than_may_be_asked_for_does_nothing(self):
        code = [word(two(0o71, 6, 0, 5), two(0o51, 6, 0, 9))]
        for n in (10000001, 4294967295):
            result = told(begin(), load(0, code), run(n), look(9, 1), run(5), look(9, 1))
            self.assertEqual(result[2:], [[-1], [0, 0], [2], [0, 5]])

    def test_goes_on_where_it_ended(self):
        code = [word(two(0o71, 6, 6, 5), one(0o36, 6, 6, 6), NOTHING), word(two(0o51, 6, 0, 9))]
        result = told(begin(), load(0, code), run(1), look(9, 1), run(1), run(1), run(1), look(9, 1), run(1))
        self.assertEqual(result[2:], [[1], [0, 0], [1], [1], [1], [0, 10], [0]])

    def test_goes_on_behind_a_refused_run(self):
        code = [word(NOTHING, NOTHING, STOP)]
        self.assertEqual(told(begin(), load(0, code), run(1), run(10000001), run(9))[2:], [[1], [-1], [1]])

    def test_goes_on_when_the_stop_is_written_over(self):
        code = [word(NOTHING, STOP), word(NOTHING, STOP)]
        result = told(begin(), load(0, code), run(9), load(0, [word(NOTHING, NOTHING, NOTHING, NOTHING)]), run(9))
        self.assertEqual([result[2], result[4]], [[1], [4]])


class Interface(unittest.TestCase):
    def test_the_list_is_as_it_was(self):
        calls = begin() + load(0, [2 ** 64 - 1, HERE_AGAIN]) + run(3) + look(0, 2) + begin() + look(0, 1)
        before = list(calls)
        answers(calls)
        self.assertEqual(calls, before)

    def test_the_same_list_twice(self):
        code = [word(two(0o61, 1, 1, 3), one(0o76, 6, 1, 0), NOTHING), word(two(0o51, 6, 0, 0))]
        calls = begin() + load(0, code) + run(4) + look(0, 3) + run(1)
        first = answers(calls)
        self.assertEqual(first, [1, 0, 1, 0, 1, 4, 4, 0, 3, code[1], 0, 1, 0])
        self.assertEqual(answers(calls), first)

    def test_nothing_is_kept(self):
        answers(begin() + load(0, [HERE_AGAIN]) + run(2))
        self.assertEqual(answers(begin() + run(2) + look(0, 1)), [1, 0, 1, 0, 2, 0, 0])

    def test_answers_are_whole_numbers_in_a_list(self):
        result = answers(begin() + load(0, [HERE_AGAIN]) + run(2) + look(0, 2) + look(0, 65537))
        self.assertIs(type(result), list)
        self.assertEqual({type(value) for value in result}, {int})

    def test_400_calls(self):
        code = [word(two(0o04, 0, 0, 0))]
        calls = begin() + load(0, code)
        for n in range(199):
            calls += run(n) + load(n + 1, [n])
        expected = [1, 0, 1, 0]
        for n in range(199):
            expected += [1, n, 1, 0]
        self.assertEqual(answers(calls), expected)

    def test_15900_words(self):
        words = [n * 2 ** 44 + 1 for n in range(15900)]
        result = told(begin(), load(49636, words), look(49635, 15901))
        self.assertEqual(result[1:], [[0], [0, 0] + words])
        result = told(begin(), load(49637, words), look(49636, 15900))
        self.assertEqual(result[1:], [[-1], [0] + [0] * 15900])

    def test_900000_words_looked_at(self):
        looks = [look(0, 65536)] * 13
        result = told(begin(), load(65535, [4]), *looks)
        self.assertEqual(result[2:], [[0] + [0] * 65535 + [4]] * 13)


if __name__ == "__main__":
    unittest.main()
