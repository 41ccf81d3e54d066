"""Whole programs, checked, started and stepped until they end."""

import unittest

from sleepwalk.programs import checked
from sleepwalk.states import fits, started
from sleepwalk.steps import stepped
from tests.examples import COUNTDOWN, ENDLESS, FACTORIAL, SHARED
from tests.support import ExactTest


class WholeProgramsTest(ExactTest):
    def ended(self, program):
        program = checked(program)
        state = started(program)
        all_said = []
        for _ in range(2000):
            if state[0] is not None:
                return state, all_said
            self.assertIs(fits(program, state), True)
            state, said = stepped(program, state)
            if said is not None:
                all_said.append(said)
        self.fail("the program does not end")

    def test_factorial(self):
        (end, frames, things), said = self.ended(FACTORIAL)
        self.assert_exact(end, ("done", 3628800))
        self.assert_exact(frames, [])
        self.assert_exact(things, {0: ("box", ("at", 1)), 1: ("fun", 1, (("at", 0),))})
        self.assertEqual(said, ["3628800"])

    def test_a_shared_box(self):
        state, said = self.ended(SHARED)
        things = {0: ("box", 8), 1: ("fun", 1, (("at", 0),)), 2: ("fun", 2, (("at", 0),))}
        self.assert_exact(state, (("done", ("at", 0)), [], things))
        self.assertEqual(said, ["box", "8"])

    def test_a_loop(self):
        state, said = self.ended(COUNTDOWN)
        self.assert_exact(state, (("done", -1), [], {0: ("box", 0)}))
        self.assertEqual(said, ["3", "2", "1", "box"])

    def test_a_function_that_calls_itself_without_end(self):
        (end, frames, _), said = self.ended(ENDLESS)
        self.assert_exact(end, ("stuck", "deep"))
        self.assertEqual(len(frames), 60)
        self.assertEqual(said, [])

    def test_pushing_without_end(self):
        (end, frames, things), _ = self.ended([[("num", 1), ("jump", 0)]])
        self.assert_exact((end, frames, things), (("stuck", "full"), [(0, 0, (), (1,) * 60)], {}))

    def test_growing_without_end(self):
        program = [[("num", 1), ("num", 10 ** 12), ("times",), ("jump", 1)]]
        (end, frames, _), _ = self.ended(program)
        self.assert_exact(end, ("stuck", "great"))
        self.assert_exact(frames, [(0, 2, (), (10 ** 24, 10 ** 12))])

    def test_earlier_states_stay(self):
        state = started(COUNTDOWN)
        states = [state]
        while state[0] is None:
            state, _ = stepped(COUNTDOWN, state)
            states.append(state)
        first = started(COUNTDOWN)
        for state in states[:-1]:
            self.assert_exact(state, first)
            first, _ = stepped(COUNTDOWN, first)
        self.assertEqual(len({id(state[1]) for state in states}), len(states))
        self.assertEqual(len({id(state[2]) for state in states}), len(states))


if __name__ == "__main__":
    unittest.main()
