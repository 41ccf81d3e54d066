import unittest
from copy import deepcopy

from sleepwalk.states import fits, started
from tests.support import ExactTest

# bodies of two, no and one instruction
PROGRAM = [[("num", 1), ("back",)], [], [("back",)]]
BIG = 10 ** 30


class StartedTest(ExactTest):
    def test_one_frame_without_values_or_things(self):
        for program in ([[]], PROGRAM, [[("drop",)] * 60] * 20):
            before = deepcopy(program)
            self.assert_exact(started(program), (None, [(0, 0, (), ())], {}))
            self.assert_exact(program, before)

    def test_the_state_is_new_each_time(self):
        first = started(PROGRAM)
        second = started(PROGRAM)
        self.assertIsNot(first[1], second[1])
        self.assertIsNot(first[2], second[2])
        first[1].append((0, 0, (), ()))
        first[2][0] = ("box", 1)
        self.assert_exact(second, (None, [(0, 0, (), ())], {}))
        self.assert_exact(started(PROGRAM), (None, [(0, 0, (), ())], {}))

    def test_it_fits(self):
        self.assertIs(fits(PROGRAM, started(PROGRAM)), True)
        self.assertIs(fits([[]], started([[]])), True)


class FitsTest(ExactTest):
    def assert_fits(self, expected, end, frames, things):
        state = (end, frames, things)
        before = deepcopy((PROGRAM, state))
        self.assertIs(fits(PROGRAM, state), expected)
        self.assert_exact((PROGRAM, state), before)

    def assert_frame_fits(self, expected, body, place):
        """The frame decides alone, as the lowest one, in between and on top."""
        frame = (body, place, (1, BIG), (-BIG,))
        good = (0, 1, (), (3,))
        for end in (None, ("stuck", "kind")):
            for frames in ([frame], [frame, good], [good, frame], [good, frame, good]):
                self.assert_fits(expected, end, frames, {})

    def assert_function_fits(self, expected, body):
        """The function's body decides alone, whether something leads to the function or not."""
        things = {4: ("box", 2), 9: ("fun", body, (1, ("at", 4))), 2: ("fun", 0, ())}
        for stack in ((), (("at", 9),)):
            self.assert_fits(expected, None, [(0, 0, (), stack)], things)
            self.assert_fits(expected, ("stuck", "full"), [(0, 0, (), stack)], things)
        for value in (3, ("at", 9)):
            self.assert_fits(expected, ("done", value), [], things)

    def test_a_state_that_runs(self):
        self.assert_fits(True, None, [(0, 1, (5,), (("at", 0),))], {0: ("fun", 2, (1,))})

    def test_a_state_that_is_stuck(self):
        self.assert_fits(True, ("stuck", "end"), [(0, 2, (5,), ())], {})
        self.assert_fits(False, ("stuck", "end"), [(0, 3, (5,), ())], {})

    def test_a_state_that_is_done(self):
        self.assert_fits(True, ("done", 3), [], {})
        self.assert_fits(True, ("done", ("at", 3)), [], {3: ("box", ("at", 3))})

    def test_bodies_of_frames(self):
        for body in (0, 1, 2):
            self.assert_frame_fits(True, body, 0)
        for body in (3, 4, BIG, -1, -3, -BIG):
            self.assert_frame_fits(False, body, 0)

    def test_places_of_frames(self):
        for body, many in ((0, 2), (1, 0), (2, 1)):
            for place in range(many + 1):
                self.assert_frame_fits(True, body, place)
            for place in (many + 1, many + 2, BIG, -1, -BIG):
                self.assert_frame_fits(False, body, place)

    def test_bodies_of_functions(self):
        for body in (0, 1, 2):
            self.assert_function_fits(True, body)
        for body in (3, 4, BIG, -1, -3, -BIG):
            self.assert_function_fits(False, body)

    def test_what_boxes_hold_is_no_body(self):
        self.assert_fits(True, None, [(0, 0, (), ())], {0: ("box", 3), 1: ("box", -1)})

    def test_one_program_fits_where_another_does_not(self):
        state = (None, [(1, 2, (), ())], {0: ("fun", 1, ())})
        self.assertIs(fits([[], [("drop",)] * 2], state), True)
        self.assertIs(fits([[], [("drop",)]], state), False)
        self.assertIs(fits([[("drop",)] * 2], state), False)

    def test_the_bounds_of_the_greatest_program(self):
        program = [[("drop",)] * 60 for _ in range(20)]
        frames = [(19, 60, (), ())] * 60
        self.assertIs(fits(program, (None, frames, {0: ("fun", 19, ())})), True)
        self.assertIs(fits(program, (None, frames, {0: ("fun", 20, ())})), False)
        self.assertIs(fits(program, (None, frames[1:] + [(19, 61, (), ())], {})), False)


if __name__ == "__main__":
    unittest.main()
