"""What became of a step: done, or why it can't be done."""

DONE = 0
STOPPED = 1
NO_WORD = 2
CUT_OFF = 3
NO_INSTRUCTION = 4
