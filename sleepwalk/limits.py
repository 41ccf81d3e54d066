"""The bounds of programs and states."""

MOST_BODIES = 20
MOST_INSTRUCTIONS = 60
MOST_KEPT = 8
MOST_FRAMES = 60

# of a frame's own values, and of its stack
MOST_VALUES = 60

# of a number in an instruction, and of a number that is a value; either way
MOST_WRITTEN = 10 ** 12
MOST_NUMBER = 10 ** 30

# of a number among the words of a state, so many as MOST_NUMBER has
MOST_FIGURES = 31
