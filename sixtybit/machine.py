"""The calls: a list of them is answered by a list of numbers."""

from sixtybit.steps import run
from sixtybit.words import MEMORY_WORDS, ONES60

BEGIN = 0
LOAD = 1
LOOK = 2

# How many numbers a call has: cy_begin, cy_look and cy_run; cy_load tells its own.
LENGTHS = {0: 1, 2: 3, 3: 2}

MOST_STEPS = 10000000


class Machine:
    def __init__(self):
        self.begin()

    def begin(self):
        self.x = [0] * 8
        self.a = [0] * 8
        self.b = [0] * 8
        self.memory = [0] * MEMORY_WORDS
        # The next instruction's place: its word times 4, and its part.
        self.at = 0

    def set_b(self, i, number):
        if i != 0:
            self.b[i] = number


def answers(calls):
    m = Machine()
    told = []
    at = 0
    while at < len(calls):
        behind = at + length_of_call(calls, at)
        answer = answer_to(m, calls[at:behind])
        told.append(len(answer))
        told.extend(answer)
        at = behind
    return told


def length_of_call(calls, at):
    if calls[at] == LOAD:
        return 3 + calls[at + 2]
    return LENGTHS[calls[at]]


def answer_to(m, call):
    if call[0] == BEGIN:
        m.begin()
        return [0]
    if call[0] == LOAD:
        return load(m, call[1], call[3:])
    if call[0] == LOOK:
        return look(m, call[1], call[2])
    return run_steps(m, call[1])


def load(m, at, words):
    if at + len(words) > MEMORY_WORDS:
        return [-1]
    for k, word in enumerate(words):
        m.memory[at + k] = word & ONES60
    return [0]


def look(m, at, n):
    if at + n > MEMORY_WORDS:
        return [-1]
    return [0] + m.memory[at:at + n]


def run_steps(m, n):
    if n > MOST_STEPS:
        return [-1]
    return [run(m, n)]
