"""The calls: a list of them is answered by a list of numbers."""

from sixtybit.cells import LAST_SET, LAST_TOLD, number_in, put_number
from sixtybit.reasons import DONE
from sixtybit.steps import run
from sixtybit.words import MEMORY_WORDS, ONES60

LOAD = 1

# How many numbers a call has, by its own number; cy_load has so many ahead of its words.
LENGTHS = (1, 3, 3, 2, 1, 2, 3)

MOST_STEPS = 10000000


class Machine:
    def __init__(self):
        self.begin()

    def begin(self):
        self.x = [0] * 8
        self.a = [0] * 8
        self.b = [0] * 8
        self.memory = [0] * MEMORY_WORDS
        # The next instruction's place: its word times 4, and its part.
        self.at = 0
        # Why the last run ended.
        self.why = DONE

    def set_b(self, i, number):
        if i != 0:
            self.b[i] = number


def begin_anew(m, call):
    m.begin()
    return [0]


def load(m, call):
    at = call[1]
    words = call[3:]
    if at + len(words) > MEMORY_WORDS:
        return [-1]
    for k, word in enumerate(words):
        m.memory[at + k] = word & ONES60
    return [0]


def look(m, call):
    at = call[1]
    n = call[2]
    if at + n > MEMORY_WORDS:
        return [-1]
    return [0] + m.memory[at:at + n]


def run_steps(m, call):
    if call[1] > MOST_STEPS:
        return [-1]
    return [run(m, call[1])]


def why_ended(m, call):
    return [m.why]


def tell_number(m, call):
    if call[1] > LAST_TOLD:
        return [-1]
    return [0, number_in(m, call[1])]


def set_number(m, call):
    if call[1] > LAST_SET:
        return [-1]
    put_number(m, call[1], call[2])
    return [0]


# In the order of their numbers.
CALLS = (begin_anew, load, look, run_steps, why_ended, tell_number, set_number)


def answers(calls):
    m = Machine()
    told = []
    at = 0
    while at < len(calls):
        behind = at + length_of_call(calls, at)
        answer = CALLS[calls[at]](m, calls[at:behind])
        told.append(len(answer))
        told.extend(answer)
        at = behind
    return told


def length_of_call(calls, at):
    if calls[at] == LOAD:
        return LENGTHS[LOAD] + calls[at + 2]
    return LENGTHS[calls[at]]
