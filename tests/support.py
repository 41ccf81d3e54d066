"""What several tests use: answers are compared whole, kinds included."""

import unittest
from copy import deepcopy

from sleepwalk import errors
from sleepwalk.steps import stepped

WORD_CLASSES = [
    errors.NoBodies, errors.TooMany, errors.NoInstruction, errors.NoBody,
    errors.NoPlace, errors.NoStep, errors.NoWords, errors.NoFit,
]

# what may be below the top frame: nothing, frames without values, frames full of them
FULL = tuple(range(-60, 0))
LOWER_FRAMES = [[], [(1, 0, (), ())], [(0, 3, (), ()), (1, 0, FULL, FULL)]]


def exact(value):
    """Give a value that is equal just for values of the same parts and kinds.

    So True is not 1, a list is no tuple, and the order of a dict's keys does not count.
    """
    kind = type(value).__name__
    if isinstance(value, (list, tuple)):
        return kind, [exact(part) for part in value]
    if isinstance(value, dict):
        return kind, sorted((key, exact(part)) for key, part in value.items())
    return kind, value


def spoil(value):
    """Change every list and dict that an answer consists of, as its asker may."""
    if isinstance(value, dict):
        for part in list(value.values()):
            spoil(part)
        value.clear()
        value["spoilt"] = "spoilt"
    elif isinstance(value, (list, tuple)):
        for part in value:
            spoil(part)
        if isinstance(value, list):
            value[:] = ["spoilt"]


class ExactTest(unittest.TestCase):
    def assert_exact(self, answer, expected):
        self.assertEqual(exact(answer), exact(expected))

    def assert_refused(self, error, function, *given):
        """The call is refused by this very class, and what is handed in stays."""
        before = deepcopy(given)
        with self.assertRaises(errors.SleepError) as caught:
            function(*given)
        self.assertIsInstance(caught.exception, ValueError)
        found = [one for one in WORD_CLASSES if isinstance(caught.exception, one)]
        self.assertEqual(found, [error])
        self.assert_exact(given, before)

    def assert_answer(self, expected, function, *given):
        """The call gives this whole answer, made anew, and changes nothing handed in."""
        before = deepcopy(given)
        answer = function(*given)
        self.assert_exact(answer, expected)
        self.assert_exact(given, before)
        other = function(*given)
        spoil(answer)
        self.assert_exact(given, before)
        self.assert_exact(other, expected)
        self.assert_exact(function(*given), expected)

    def assert_step(self, program, state, behind, said=None):
        """The step gives this whole answer, made anew, and changes nothing handed in."""
        before = deepcopy((program, state))
        answer = stepped(program, state)
        self.assert_exact(answer, (behind, said))
        self.assert_exact((program, state), before)
        other = stepped(program, state)
        self.assertIsNot(answer[0][1], other[0][1])
        self.assertIsNot(answer[0][2], other[0][2])
        answer[0][1].append("spoilt")
        answer[0][2][10 ** 6] = "spoilt"
        self.assert_exact(other, (behind, said))
        self.assert_exact((program, state), before)
        self.assert_exact(stepped(program, state), (behind, said))

    def assert_stuck(self, program, frames, things, word):
        """The state that runs gets stuck by this word, otherwise it is as it was."""
        self.assert_step(
            program, (None, frames, things), (("stuck", word), deepcopy(frames), deepcopy(things))
        )

    def assert_one(self, instruction, before, behind, said=None):
        """One instruction leads from a top frame and things to others; frames below it stay.

        Before and behind are given as (own, stack, things).
        """
        own, stack, things = before
        own_behind, stack_behind, things_behind = behind
        for lower in LOWER_FRAMES:
            self.assert_step(
                [[("drop",), instruction, ("drop",)], []],
                (None, lower + [(0, 1, own, stack)], things),
                (None, lower + [(0, 2, own_behind, stack_behind)], things_behind),
                said,
            )

    def assert_one_stuck(self, instruction, own, stack, word, things=None):
        """One instruction is stuck with such a top frame, whatever frames are below it."""
        things = {} if things is None else things
        program = [[("drop",), instruction, ("drop",)], []]
        for lower in LOWER_FRAMES:
            self.assert_stuck(program, lower + [(0, 1, own, stack)], things, word)
