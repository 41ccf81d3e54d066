import unittest

from sleepwalk.errors import NoStep
from sleepwalk.steps import stepped
from tests.support import ExactTest

BIG = 10 ** 30
BOX = ("at", 3)
FUNCTION = ("at", 5)
THINGS = {3: ("box", 7), 5: ("fun", 1, (8, BOX))}


class ValuesTest(ExactTest):
    def test_num(self):
        for n in (0, 5, -5, 10 ** 12, -10 ** 12):
            self.assert_one(("num", n), ((), (), {}), ((), (n,), {}))
            self.assert_one(("num", n), ((1,), (2, BOX), THINGS), ((1,), (2, BOX, n), THINGS))

    def test_num_fills_the_stack(self):
        self.assert_one(("num", 1), ((), (2,) * 59, {}), ((), (2,) * 59 + (1,), {}))

    def test_get(self):
        own = (10, BOX, -30)
        for k in range(3):
            self.assert_one(("get", k), (own, (4,), THINGS), (own, (4, own[k]), THINGS))

    def test_get_at_the_bounds(self):
        own = tuple(range(60))
        self.assert_one(("get", 59), (own, (2,) * 59, {}), (own, (2,) * 59 + (59,), {}))
        self.assert_one(("get", 0), ((9,), (), {}), ((9,), (9,), {}))

    def test_keep(self):
        self.assert_one(("keep",), ((), (4,), {}), ((4,), (), {}))
        self.assert_one(("keep",), ((1, 2), (3, BOX), THINGS), ((1, 2, BOX), (3,), THINGS))

    def test_keep_of_the_sixtieth_own_value(self):
        self.assert_one(("keep",), ((1,) * 59, (4, 5), {}), ((1,) * 59 + (5,), (4,), {}))

    def test_drop(self):
        self.assert_one(("drop",), ((), (4,), {}), ((), (), {}))
        self.assert_one(("drop",), ((1,), (3, BOX), THINGS), ((1,), (3,), THINGS))
        self.assert_one(("drop",), ((), (1,) * 60, {}), ((), (1,) * 59, {}))


class ReckoningTest(ExactTest):
    def assert_reckoned(self, word, first, second, result, things=None):
        things = {} if things is None else things
        self.assert_one((word,), ((), (first, second), things), ((), (result,), things))
        self.assert_one((word,), ((6,), (9, first, second), things), ((6,), (9, result), things))

    def test_add(self):
        for first, second, result in ((5, 3, 8), (-5, 3, -2), (0, 0, 0), (10 ** 20, 1, 10 ** 20 + 1)):
            self.assert_reckoned("add", first, second, result)

    def test_add_up_to_the_bounds(self):
        self.assert_reckoned("add", BIG - 1, 1, BIG)
        self.assert_reckoned("add", 1 - BIG, -1, -BIG)
        self.assert_reckoned("add", BIG, 0, BIG)

    def test_minus(self):
        for first, second, result in ((5, 3, 2), (3, 5, -2), (-3, -5, 2), (4, 4, 0)):
            self.assert_reckoned("minus", first, second, result)

    def test_minus_up_to_the_bounds(self):
        self.assert_reckoned("minus", BIG - 1, -1, BIG)
        self.assert_reckoned("minus", 1 - BIG, 1, -BIG)
        self.assert_reckoned("minus", BIG, BIG, 0)

    def test_times(self):
        for first, second, result in ((5, 3, 15), (-5, 3, -15), (-5, -3, 15), (0, 7, 0)):
            self.assert_reckoned("times", first, second, result)

    def test_times_up_to_the_bounds(self):
        self.assert_reckoned("times", 10 ** 15, 10 ** 15, BIG)
        self.assert_reckoned("times", -10 ** 15, 10 ** 15, -BIG)
        self.assert_reckoned("times", BIG, 0, 0)

    def test_less(self):
        for first, second, result in ((3, 5, 1), (5, 3, 0), (4, 4, 0), (-5, -3, 1), (-BIG, BIG, 1)):
            self.assert_reckoned("less", first, second, result)

    def test_same_of_numbers(self):
        for first, second, result in ((4, 4, 1), (4, 5, 0), (4, -4, 0), (BIG, BIG, 1), (0, 0, 1)):
            self.assert_reckoned("same", first, second, result)

    def test_same_of_things(self):
        things = {0: ("box", 7), 1: ("box", 7), 2: ("fun", 1, ()), 3: ("fun", 1, ())}
        for first in things:
            for second in things:
                result = 1 if first == second else 0
                self.assert_reckoned("same", ("at", first), ("at", second), result, things)

    def test_same_of_a_number_and_a_thing(self):
        things = {0: ("box", 0), 1: ("fun", 1, ())}
        for k in things:
            self.assert_reckoned("same", k, ("at", k), 0, things)
            self.assert_reckoned("same", ("at", k), k, 0, things)

    def test_reckoning_on_a_full_stack(self):
        for word, result in (("add", 5), ("minus", -1), ("times", 6), ("less", 1), ("same", 0)):
            stack = (1,) * 58
            self.assert_one((word,), ((), stack + (2, 3), {}), ((), stack + (result,), {}))


class ThingsTest(ExactTest):
    def test_box(self):
        self.assert_one(("box",), ((), (4,), {}), ((), (("at", 0),), {0: ("box", 4)}))
        self.assert_one(
            ("box",), ((1,), (2, FUNCTION), THINGS),
            ((1,), (2, ("at", 6)), {**THINGS, 6: ("box", FUNCTION)}),
        )

    def test_box_on_a_full_stack(self):
        self.assert_one(
            ("box",), ((), (1,) * 60, {}), ((), (1,) * 59 + (("at", 0),), {0: ("box", 1)}),
        )

    def test_the_number_of_a_new_thing(self):
        for numbers, new in (
            ((), 0), ((0,), 1), ((0, 1, 2), 3), ((7,), 8), ((1, 5), 6), ((5, 1), 6),
            ((9, 0, 4), 10), ((2, 11, 10), 12), ((10 ** 9, 3), 10 ** 9 + 1),
        ):
            things = {number: ("box", number) for number in numbers}
            self.assert_one(
                ("box",), ((), (-1,), things),
                ((), (("at", new),), {**things, new: ("box", -1)}),
            )
            self.assert_one(
                ("fun", 1, ()), ((), (), things),
                ((), (("at", new),), {**things, new: ("fun", 1, ())}),
            )

    def test_fun(self):
        own = (10, BOX, 30)
        for kept, values in (
            ((), ()), ((2,), (30,)), ((2, 0, 1), (30, 10, BOX)), ((1, 1), (BOX, BOX)),
            ((0, 0, 1, 1, 2, 2, 0, 0), (10, 10, BOX, BOX, 30, 30, 10, 10)),
        ):
            for f in (0, 1):
                self.assert_one(
                    ("fun", f, kept), (own, (4,), THINGS),
                    (own, (4, ("at", 6)), {**THINGS, 6: ("fun", f, values)}),
                )

    def test_fun_at_the_bounds(self):
        own = tuple(range(60))
        self.assert_one(
            ("fun", 1, (59, 0)), (own, (2,) * 59, {}),
            (own, (2,) * 59 + (("at", 0),), {0: ("fun", 1, (59, 0))}),
        )

    def test_open(self):
        things = {0: ("box", -7), 1: ("box", ("at", 2)), 2: ("fun", 1, ())}
        self.assert_one(("open",), ((), (("at", 0),), things), ((), (-7,), things))
        self.assert_one(("open",), ((5,), (4, ("at", 1)), things), ((5,), (4, ("at", 2)), things))
        full = (1,) * 59
        self.assert_one(("open",), ((), full + (("at", 0),), things), ((), full + (-7,), things))

    def test_fill(self):
        self.assert_one(("fill",), ((), (BOX, 9), THINGS), ((), (), {**THINGS, 3: ("box", 9)}))
        self.assert_one(
            ("fill",), ((5,), (4, BOX, FUNCTION), THINGS),
            ((5,), (4,), {**THINGS, 3: ("box", FUNCTION)}),
        )

    def test_fill_of_a_box_that_two_values_lead_to(self):
        self.assert_one(
            ("fill",), ((BOX,), (BOX, BOX, 9), THINGS),
            ((BOX,), (BOX,), {**THINGS, 3: ("box", 9)}),
        )
        behind = {**THINGS, 3: ("box", 9)}
        self.assert_one(("get", 0), ((BOX,), (BOX,), behind), ((BOX,), (BOX, BOX), behind))
        self.assert_one(("open",), ((BOX,), (BOX, BOX), behind), ((BOX,), (BOX, 9), behind))

    def test_a_box_that_holds_itself(self):
        ring = {**THINGS, 3: ("box", BOX)}
        self.assert_one(("fill",), ((), (BOX, BOX), THINGS), ((), (), ring))
        self.assert_one(("open",), ((), (BOX,), ring), ((), (BOX,), ring))
        self.assert_one(("same",), ((), (BOX, BOX), ring), ((), (1,), ring))

    def test_two_boxes_that_hold_each_other(self):
        one, two = ("at", 0), ("at", 1)
        half = {0: ("box", two), 1: ("box", 4)}
        ring = {0: ("box", two), 1: ("box", one)}
        self.assert_one(("fill",), ((), (two, one), half), ((), (), ring))
        self.assert_one(("open",), ((), (one,), ring), ((), (two,), ring))
        self.assert_one(("open",), ((), (two,), ring), ((), (one,), ring))
        self.assert_one(("same",), ((), (one, two), ring), ((), (0,), ring))
        self.assert_one(("fill",), ((), (one, 5), ring), ((), (), {0: ("box", 5), 1: ("box", one)}))

    def test_the_order_of_keys_is_of_no_matter(self):
        turned = {key: THINGS[key] for key in sorted(THINGS, reverse=True)}
        self.assert_one(("fill",), ((), (BOX, 9), turned), ((), (), {**THINGS, 3: ("box", 9)}))


class FramesTest(ExactTest):
    program = [[("drop",), ("call",), ("back",)], [("back",), ("drop",)], []]

    def test_call(self):
        for body in (0, 1, 2):
            things = {5: ("fun", body, ()), 2: ("box", 1)}
            self.assert_step(
                self.program,
                (None, [(0, 1, (4,), (6, ("at", 5), 9))], things),
                (None, [(0, 2, (4,), (6,)), (body, 0, (9,), ())], things),
            )

    def test_own_values_of_the_called_function(self):
        for kept in ((8,), (8, BOX), (3, 2, 1), (1, 2, 3, 4, 5, 6, 7, 8)):
            things = {3: ("box", 1), 5: ("fun", 1, kept)}
            for value in (0, BOX, FUNCTION):
                self.assert_step(
                    self.program,
                    (None, [(0, 1, (), (FUNCTION, value))], things),
                    (None, [(0, 2, (), ()), (1, 0, kept + (value,), ())], things),
                )

    def test_call_above_other_frames(self):
        lower = [(1, 2, (7,), (8, BOX)), (2, 0, (), ())]
        self.assert_step(
            self.program,
            (None, lower + [(0, 1, (4,), (6, FUNCTION, 9))], THINGS),
            (None, lower + [(0, 2, (4,), (6,)), (1, 0, (8, BOX, 9), ())], THINGS),
        )

    def test_call_of_the_last_instruction(self):
        program = [[("call",)], [("back",)]]
        self.assert_step(
            program,
            (None, [(0, 0, (), (("at", 0), 9))], {0: ("fun", 0, ())}),
            (None, [(0, 1, (), ()), (0, 0, (9,), ())], {0: ("fun", 0, ())}),
        )

    def test_call_of_the_sixtieth_frame(self):
        lower = [(1, 0, (), (k,)) for k in range(58)]
        self.assert_step(
            self.program,
            (None, lower + [(0, 1, (), (FUNCTION, 9))], THINGS),
            (None, lower + [(0, 2, (), ()), (1, 0, (8, BOX, 9), ())], THINGS),
        )

    def test_call_on_a_full_stack(self):
        self.assert_step(
            self.program,
            (None, [(0, 1, (), (1,) * 58 + (FUNCTION, 9))], THINGS),
            (None, [(0, 2, (), (1,) * 58), (1, 0, (8, BOX, 9), ())], THINGS),
        )

    def test_back_of_the_last_frame(self):
        for value in (0, -4, BIG, BOX, FUNCTION):
            for stack in ((value,), (1, 2, value)):
                self.assert_step(
                    self.program, (None, [(0, 2, (5,), stack)], THINGS),
                    (("done", value), [], THINGS),
                )

    def test_back_of_a_frame_above_others(self):
        for value in (0, -4, BOX, FUNCTION):
            for stack in ((value,), (1, 2, value)):
                self.assert_step(
                    self.program,
                    (None, [(1, 1, (), (3,)), (0, 2, (5,), (6,)), (1, 0, (7,), stack)], THINGS),
                    (None, [(1, 1, (), (3,)), (0, 2, (5,), (6, value))], THINGS),
                )

    def test_back_to_a_frame_behind_its_last_instruction(self):
        self.assert_step(
            self.program,
            (None, [(2, 0, (), ()), (1, 0, (), (4,))], {}),
            (None, [(2, 0, (), (4,))], {}),
        )

    def test_back_fills_the_stack_below(self):
        self.assert_step(
            self.program,
            (None, [(0, 2, (), (1,) * 59), (1, 0, (), (2,) * 60)], {}),
            (None, [(0, 2, (), (1,) * 59 + (2,))], {}),
        )

    def test_back_with_sixty_frames(self):
        lower = [(1, 0, (), (k,)) for k in range(59)]
        self.assert_step(
            self.program,
            (None, lower + [(0, 2, (), (7,))], {}),
            (None, lower[:-1] + [(1, 0, (), (58, 7))], {}),
        )

    def test_the_lower_frames_stay(self):
        lower = [(1, 2, (7,), (8, BOX)), (2, 0, (1,), ())]
        program = [[("num", 4)], [("drop",)] * 2, []]
        self.assert_step(
            program,
            (None, lower + [(0, 0, (), ())], THINGS),
            (None, lower + [(0, 1, (), (4,))], THINGS),
        )


class PlacesTest(ExactTest):
    def assert_goes(self, word, p, stack, place):
        program = [[("drop",), ("drop",), (word, p), ("drop",)], []]
        self.assert_step(
            program,
            (None, [(1, 0, (), ()), (0, 2, (9,), (5,) + stack)], THINGS),
            (None, [(1, 0, (), ()), (0, place, (9,), (5,))], THINGS),
        )

    def test_jump(self):
        for p in range(5):
            self.assert_goes("jump", p, (), p)

    def test_jump_without_and_with_all_values(self):
        self.assert_step([[("jump", 0)]], (None, [(0, 0, (), ())], {}), (None, [(0, 0, (), ())], {}))
        frames = [(0, 0, (1,) * 60, (2,) * 60)]
        self.assert_step([[("jump", 0)]], (None, frames, {}), (None, list(frames), {}))

    def test_unless_nought(self):
        for p in range(5):
            self.assert_goes("unless", p, (0,), p)

    def test_unless_another_number(self):
        for p in range(5):
            for number in (1, -1, BIG, -BIG):
                self.assert_goes("unless", p, (number,), 3)


class SayTest(ExactTest):
    def assert_said(self, value, said):
        self.assert_one(("say",), ((1,), (value,), THINGS), ((1,), (), THINGS), said)
        self.assert_one(("say",), ((), (0, 4, value), THINGS), ((), (0, 4), THINGS), said)

    def test_numbers(self):
        for value, said in (
            (0, "0"), (7, "7"), (-7, "-7"), (120, "120"), (BIG, "1" + "0" * 30),
            (-BIG, "-1" + "0" * 30),
        ):
            self.assert_said(value, said)

    def test_things(self):
        self.assert_said(BOX, "box")
        self.assert_said(FUNCTION, "function")

    def test_a_box_of_a_function_is_a_box(self):
        things = {0: ("box", ("at", 1)), 1: ("fun", 1, (("at", 0),))}
        self.assert_one(("say",), ((), (("at", 0),), things), ((), (), things), "box")
        self.assert_one(("say",), ((), (("at", 1),), things), ((), (), things), "function")


class EndedStatesTest(ExactTest):
    def test_done(self):
        for value in (0, 5, BOX, FUNCTION):
            state = (("done", value), [], THINGS)
            self.assert_refused(NoStep, stepped, [[("num", 1)], [("back",)]], state)

    def test_stuck(self):
        program = [[("num", 1)], []]
        for word in ("end", "empty", "own", "kind", "great", "deep", "full"):
            for place in (0, 1):
                state = (("stuck", word), [(0, place, (), ())], {})
                self.assert_refused(NoStep, stepped, program, state)

    def test_the_state_behind_the_last_step(self):
        program = [[("num", 1), ("back",)]]
        state, _ = stepped(program, (None, [(0, 1, (), (1,))], {}))
        self.assert_refused(NoStep, stepped, program, state)

    def test_the_state_that_got_stuck(self):
        state, _ = stepped([[]], (None, [(0, 0, (), ())], {}))
        self.assert_refused(NoStep, stepped, [[]], state)


if __name__ == "__main__":
    unittest.main()
