import unittest

from tests.support import ExactTest

BIG = 10 ** 30
BOX = ("at", 3)
FUNCTION = ("at", 5)
THINGS = {3: ("box", 7), 5: ("fun", 1, (8, BOX))}
FULL = (1,) * 60
POP_ONE = ["keep", "drop", "box", "open", "back", "say"]
POP_TWO = ["add", "minus", "times", "less", "same", "fill", "call"]
REFERRING = [("fun", 1, (0,)), ("get", 0)]


class EndTest(ExactTest):
    def test_behind_the_last_instruction(self):
        self.assert_stuck([[("num", 1), ("num", 2)]], [(0, 2, (5,), (1, 2))], {}, "end")
        self.assert_stuck([[("back",)] * 60], [(0, 60, (), ())], {}, "end")

    def test_in_an_empty_body(self):
        self.assert_stuck([[]], [(0, 0, (), ())], {}, "end")
        self.assert_stuck([[("num", 1)], []], [(0, 1, (), ()), (1, 0, (4,), ())], THINGS, "end")

    def test_only_the_top_frame_counts(self):
        program = [[("num", 1)], []]
        self.assert_step(
            program,
            (None, [(1, 0, (), ()), (0, 0, (), ())], {}),
            (None, [(1, 0, (), ()), (0, 1, (), (1,))], {}),
        )

    def test_with_full_stacks(self):
        self.assert_stuck([[]], [(0, 0, FULL, FULL)] * 60, {}, "end")


class EmptyTest(ExactTest):
    def test_none_where_one_is_popped(self):
        for instruction in [(word,) for word in POP_ONE] + [("unless", 1), ("unless", 0)]:
            self.assert_one_stuck(instruction, (5,), (), "empty", THINGS)

    def test_none_where_two_are_popped(self):
        for word in POP_TWO:
            self.assert_one_stuck((word,), (5,), (), "empty", THINGS)

    def test_one_too_few(self):
        for word in POP_TWO:
            for value in (4, BOX, FUNCTION):
                self.assert_one_stuck((word,), (5,), (value,), "empty", THINGS)

    def test_values_of_lower_frames_do_not_count(self):
        for word in POP_ONE + POP_TWO:
            frames = [(1, 0, (), (BOX, 2, 3)), (0, 0, (1, 2), ())]
            self.assert_stuck([[(word,)], []], frames, THINGS, "empty")

    def test_it_comes_ahead_of_kind(self):
        for word in ("add", "minus", "times", "less"):
            self.assert_one_stuck((word,), (), (BOX,), "empty", THINGS)
        for word in ("fill", "call"):
            self.assert_one_stuck((word,), (), (4,), "empty", THINGS)

    def test_it_comes_ahead_of_deep(self):
        for stack in ((), (FUNCTION,)):
            frames = [(1, 0, (), ())] * 59 + [(0, 0, (), stack)]
            self.assert_stuck([[("call",)], []], frames, THINGS, "empty")

    def test_it_comes_ahead_of_full(self):
        self.assert_one_stuck(("keep",), FULL, (), "empty")
        frames = [(1, 0, (), FULL), (0, 0, (), ())]
        self.assert_stuck([[("back",)], []], frames, {}, "empty")


class OwnTest(ExactTest):
    def test_get(self):
        self.assert_one_stuck(("get", 0), (), (4,), "own")
        self.assert_one_stuck(("get", 2), (6, 7), (4,), "own")
        self.assert_one_stuck(("get", 59), (6,) * 59, (), "own")
        self.assert_one_stuck(("get", 59), (), (1,) * 59, "own")

    def test_fun(self):
        for own, kept in (
            ((), (0,)), ((6, 7), (2,)), ((6, 7), (0, 1, 2)), ((6, 7), (2, 0)), ((6,) * 59, (59,)),
            ((6, 7), (0, 0, 0, 0, 0, 0, 0, 5)),
        ):
            self.assert_one_stuck(("fun", 1, kept), own, (4,), "own", THINGS)

    def test_own_values_of_lower_frames_do_not_count(self):
        for instruction in REFERRING:
            frames = [(1, 0, (4, 5), ()), (0, 0, (), ())]
            self.assert_stuck([[instruction], []], frames, {}, "own")

    def test_it_comes_ahead_of_full(self):
        for instruction in REFERRING:
            self.assert_one_stuck(instruction, (), FULL, "own")


class KindTest(ExactTest):
    def test_reckoning_with_things(self):
        for word in ("add", "minus", "times", "less"):
            for thing in (BOX, FUNCTION):
                for pair in ((thing, 1), (1, thing), (thing, thing), (thing, 0), (0, thing)):
                    self.assert_one_stuck((word,), (), pair, "kind", THINGS)
                    self.assert_one_stuck((word,), (1,), (6,) + pair, "kind", THINGS)

    def test_unless(self):
        for thing in (BOX, FUNCTION):
            for p in (0, 3):
                self.assert_one_stuck(("unless", p), (), (0, thing), "kind", THINGS)

    def test_open(self):
        for value in (0, 3, -1, FUNCTION):
            self.assert_one_stuck(("open",), (), (BOX, value), "kind", THINGS)

    def test_fill(self):
        for lower in (0, 3, FUNCTION):
            for upper in (4, BOX, FUNCTION):
                self.assert_one_stuck(("fill",), (), (BOX, lower, upper), "kind", THINGS)

    def test_call(self):
        for lower in (0, 5, BOX):
            for upper in (4, BOX, FUNCTION):
                self.assert_one_stuck(("call",), (), (FUNCTION, lower, upper), "kind", THINGS)

    def test_a_box_of_a_function_is_no_function(self):
        things = {0: ("box", ("at", 1)), 1: ("fun", 0, (("at", 0),))}
        self.assert_one_stuck(("call",), (), (("at", 0), 4), "kind", things)
        self.assert_one_stuck(("open",), (), (("at", 1),), "kind", things)

    def test_true_and_false_are_no_numbers(self):
        for word in ("add", "minus", "times", "less"):
            self.assert_one_stuck((word,), (), (True, 1), "kind")
            self.assert_one_stuck((word,), (), (1, False), "kind")
        self.assert_one_stuck(("unless", 0), (), (False,), "kind")

    def test_it_comes_ahead_of_great(self):
        for word in ("add", "minus", "times"):
            self.assert_one_stuck((word,), (), (BIG, BOX), "kind", THINGS)
            self.assert_one_stuck((word,), (), (BOX, BIG), "kind", THINGS)

    def test_it_comes_ahead_of_deep(self):
        frames = [(1, 0, (), ())] * 59 + [(0, 0, (), (BOX, FUNCTION))]
        self.assert_stuck([[("call",)], []], frames, THINGS, "kind")


class GreatTest(ExactTest):
    def test_add(self):
        for first, second in ((BIG, 1), (1, BIG), (BIG, BIG), (-BIG, -1), (-1, -BIG), (-BIG, -BIG)):
            self.assert_one_stuck(("add",), (), (4, first, second), "great")

    def test_minus(self):
        for first, second in ((BIG, -1), (1, -BIG), (BIG, -BIG), (-BIG, 1), (-1, BIG), (-BIG, BIG)):
            self.assert_one_stuck(("minus",), (), (4, first, second), "great")

    def test_times(self):
        near = 10 ** 15
        for first, second in (
            (BIG, 2), (2, -BIG), (-BIG, -BIG), (near, near + 1), (-near - 1, near), (BIG, BIG),
        ):
            self.assert_one_stuck(("times",), (), (4, first, second), "great")

    def test_one_beyond_by_times(self):
        # 10 ** 30 + 1 has the factor 10 ** 10 + 1.
        first = 10 ** 10 + 1
        second = 10 ** 20 - 10 ** 10 + 1
        self.assertEqual(first * second, BIG + 1)
        self.assert_one_stuck(("times",), (), (first, second), "great")
        self.assert_one_stuck(("times",), (), (first, -second), "great")

    def test_less_and_same_are_never_great(self):
        for word, result in (("less", 1), ("same", 0)):
            self.assert_one((word,), ((), (-BIG, BIG), {}), ((), (result,), {}))


class DeepTest(ExactTest):
    def test_call_with_sixty_frames(self):
        lower = [(1, 0, (), (k,)) for k in range(59)]
        for stack in ((FUNCTION, 4), (1, FUNCTION, BOX)):
            frames = lower + [(0, 0, (2,), stack)]
            self.assert_stuck([[("call",)], []], frames, THINGS, "deep")

    def test_other_instructions_with_sixty_frames(self):
        lower = [(1, 0, (), (k,)) for k in range(59)]
        self.assert_step(
            [[("num", 4)], []],
            (None, lower + [(0, 0, (2,), ())], {}),
            (None, lower + [(0, 1, (2,), (4,))], {}),
        )


class FullTest(ExactTest):
    def test_num_get_and_fun(self):
        for instruction in [("num", 4), ("fun", 1, ())] + REFERRING:
            self.assert_one_stuck(instruction, (6,), FULL, "full", THINGS)

    def test_keep(self):
        self.assert_one_stuck(("keep",), FULL, (4,), "full")
        self.assert_one_stuck(("keep",), FULL, FULL, "full")

    def test_back(self):
        for stack in ((4,), (BOX,), FULL):
            frames = [(1, 0, (3,), FULL), (0, 0, (), stack)]
            self.assert_stuck([[("back",)], []], frames, THINGS, "full")
            frames = [(1, 0, (), ())] + frames
            self.assert_stuck([[("back",)], []], frames, THINGS, "full")

    def test_other_stacks_do_not_count(self):
        program = [[("num", 4), ("back",), ("keep",)], []]
        self.assert_step(
            program,
            (None, [(1, 0, FULL, FULL), (0, 0, FULL, ())], {}),
            (None, [(1, 0, FULL, FULL), (0, 1, FULL, (4,))], {}),
        )
        self.assert_step(
            program,
            (None, [(1, 0, (), FULL), (1, 0, FULL, ()), (0, 1, FULL, (4,))], {}),
            (None, [(1, 0, (), FULL), (1, 0, FULL, (4,))], {}),
        )
        self.assert_step(
            program,
            (None, [(1, 0, FULL, FULL), (0, 2, (), FULL)], {}),
            (None, [(1, 0, FULL, FULL), (0, 3, (1,), FULL[1:])], {}),
        )

    def test_back_of_the_only_frame_is_never_full(self):
        self.assert_step(
            [[("back",)]], (None, [(0, 0, FULL, FULL)], {}), (("done", 1), [], {}),
        )


class StuckWhileSayingTest(ExactTest):
    def test_say_of_nothing_says_nothing(self):
        self.assert_one_stuck(("say",), (4,), (), "empty", THINGS)

    def test_all_frames_and_things_stay(self):
        frames = [(1, 1, (BOX,), (2, FUNCTION)), (0, 1, (1,), (4, BOX, 5))]
        things = {9: ("box", ("at", 9)), **THINGS, 0: ("fun", 0, (BOX,))}
        self.assert_stuck([[("num", 1), ("add",)], [("drop",)]], frames, things, "kind")


if __name__ == "__main__":
    unittest.main()
