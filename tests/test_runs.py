import unittest
from copy import deepcopy

from sleepwalk.runs import run
from sleepwalk.states import started
from sleepwalk.steps import stepped
from tests.examples import CHATTER, COUNTDOWN, ENDLESS, EXAMPLES, FACTORIAL, STUCK_PROGRAMS
from tests.support import ExactTest

# says a number below nought, a box, a function and 0, in this order, and is done by its 14 steps
SAYING = [[
    ("num", -12), ("say",),
    ("num", 3), ("box",), ("keep",), ("get", 0), ("say",),
    ("fun", 1, (0,)), ("say",),
    ("num", 0), ("say",),
    ("get", 0), ("jump", 13), ("back",),
], []]

BEGUN = (None, [(0, 0, (), ())], {})
BOXES = {4: ("box", ("at", 4)), 1: ("fun", 1, (("at", 4), 5))}
ENDED = [
    ("done", 7), ("done", -10 ** 30), ("done", ("at", 4)),
] + [("stuck", word) for word in STUCK_PROGRAMS]


def stepwise(program, state, fuel):
    """Give what run is to give, worked out step by step."""
    all_said = []
    while fuel > 0 and state[0] is None:
        state, said = stepped(program, state)
        all_said += [] if said is None else [said]
        fuel -= 1
    return state, all_said


class RunTest(ExactTest):
    def assert_run(self, program, state, fuel, behind, all_said):
        self.assert_answer((behind, all_said), run, program, state, fuel)

    def test_no_fuel(self):
        self.assert_run(SAYING, BEGUN, 0, BEGUN, [])
        self.assert_run(SAYING, started(SAYING), 0, BEGUN, [])
        state = (None, [(1, 0, (1, ("at", 4)), ()), (0, 1, (), (5,))], BOXES)
        self.assert_run(SAYING, state, 0, deepcopy(state), [])

    def test_one_step(self):
        self.assert_run(SAYING, BEGUN, 1, (None, [(0, 1, (), (-12,))], {}), [])
        self.assert_run(
            SAYING, (None, [(0, 1, (), (-12,))], {}), 1, (None, [(0, 2, (), ())], {}), ["-12"]
        )
        state = (None, [(1, 0, (1, ("at", 4)), ()), (0, 8, (), (5, ("at", 1)))], BOXES)
        behind = (None, [(1, 0, (1, ("at", 4)), ()), (0, 9, (), (5,))], BOXES)
        self.assert_run(SAYING, state, 1, deepcopy(behind), ["function"])

    def test_all_that_is_said_in_order(self):
        box = {0: ("box", 3)}
        both = {0: ("box", 3), 1: ("fun", 1, (("at", 0),))}
        own = (("at", 0),)
        for fuel, place, stack, things, all_said in (
            (5, 5, (), box, ["-12"]),
            (6, 6, (("at", 0),), box, ["-12"]),
            (7, 7, (), box, ["-12", "box"]),
            (9, 9, (), both, ["-12", "box", "function"]),
            (10, 10, (0,), both, ["-12", "box", "function"]),
            (11, 11, (), both, ["-12", "box", "function", "0"]),
            (13, 13, (("at", 0),), both, ["-12", "box", "function", "0"]),
        ):
            self.assert_run(SAYING, BEGUN, fuel, (None, [(0, place, own, stack)], things), all_said)

    def test_as_many_steps_as_there_are_and_more(self):
        things = {0: ("box", 3), 1: ("fun", 1, (("at", 0),))}
        for fuel in (14, 15, 298, 299):
            self.assert_run(
                SAYING, BEGUN, fuel,
                (("done", ("at", 0)), [], things), ["-12", "box", "function", "0"],
            )

    def test_the_steps_that_a_state_has(self):
        frames = [(0, 15, (("at", 0), ("at", 1), 3628800), (3628800,))]
        things = {0: ("box", ("at", 1)), 1: ("fun", 1, (("at", 0),))}
        self.assert_run(FACTORIAL, BEGUN, 129, (None, frames, things), ["3628800"])
        self.assert_run(FACTORIAL, BEGUN, 130, (("done", 3628800), [], things), ["3628800"])

    def test_getting_stuck_takes_a_step(self):
        program = [[("num", 5), ("say",), ("add",)]]
        frames = [(0, 2, (), ())]
        self.assert_run(program, BEGUN, 2, (None, frames, {}), ["5"])
        for fuel in (3, 4, 299):
            self.assert_run(program, BEGUN, fuel, (("stuck", "empty"), frames, {}), ["5"])

    def test_frames_without_end(self):
        state, all_said = run(ENDLESS, BEGUN, 246)
        self.assert_exact((state[0], len(state[1]), all_said), (None, 60, []))
        for fuel in (247, 299):
            behind = (("stuck", "deep"), state[1], state[2])
            self.assert_run(ENDLESS, BEGUN, fuel, deepcopy(behind), [])

    def test_a_loop_without_end(self):
        for fuel, place, stack, many in (
            (0, 0, (), 0), (1, 1, (1,), 0), (2, 2, (), 1), (3, 0, (), 1), (5, 2, (), 2),
            (150, 0, (), 50), (297, 0, (), 99), (298, 1, (1,), 99), (299, 2, (), 100),
        ):
            self.assert_run(CHATTER, BEGUN, fuel, (None, [(0, place, (), stack)], {}), ["1"] * many)

    def test_a_silent_loop_without_end(self):
        self.assert_run([[("jump", 0)]], BEGUN, 299, BEGUN, [])

    def test_an_ended_state_stays(self):
        for end in ENDED:
            frames = [] if end[0] == "done" else [(1, 0, (3,), ()), (0, 1, (), (5, ("at", 1)))]
            for fuel in (0, 1, 2, 299):
                self.assert_run(SAYING, (end, frames, BOXES), fuel, deepcopy((end, frames, BOXES)), [])

    def test_the_parts_given_are_no_parts_handed_in(self):
        for end in [None] + ENDED:
            for fuel in (0, 1):
                state = (end, [(0, 0, (), ())], {0: ("box", 1)})
                (_, frames, things), _ = run(SAYING, state, fuel)
                self.assertIsNot(frames, state[1])
                self.assertIsNot(things, state[2])

    def test_it_does_what_the_steps_do(self):
        for program in EXAMPLES:
            for fuel in range(0, 300, 7):
                self.assert_exact(
                    run(program, started(program), fuel), stepwise(program, started(program), fuel)
                )

    def test_a_run_in_two_parts(self):
        for program in (SAYING, COUNTDOWN, CHATTER, STUCK_PROGRAMS["great"]):
            whole = run(program, started(program), 60)
            for first in range(61):
                state, said = run(program, started(program), first)
                behind, more = run(program, state, 60 - first)
                self.assert_exact((behind, said + more), whole)


if __name__ == "__main__":
    unittest.main()
