import unittest
from copy import deepcopy

from sleepwalk.errors import NoBodies, NoBody, NoInstruction, NoPlace, TooMany
from sleepwalk.programs import checked
from tests.support import ExactTest

LONE_WORDS = [
    "keep", "drop", "add", "minus", "times", "less", "same",
    "box", "open", "fill", "call", "back", "say",
]
BIG = 10 ** 12
BAD = ("hum",)
FAR_BODY = ("fun", 99, ())
FAR_PLACE = ("jump", 99)


class GoodProgramsTest(ExactTest):
    def assert_good(self, program):
        before = deepcopy(program)
        self.assert_exact(checked(program), before)
        self.assert_exact(program, before)

    def test_every_instruction(self):
        body = [(word,) for word in LONE_WORDS]
        body += [("num", 7), ("get", 3), ("fun", 1, (2, 0, 2)), ("jump", 0), ("unless", 5)]
        self.assert_good([body, [("back",)]])

    def test_each_word_alone(self):
        for word in LONE_WORDS:
            self.assert_good([[(word,)]])

    def test_one_empty_body(self):
        self.assert_good([[]])

    def test_twenty_bodies(self):
        self.assert_good([[] for _ in range(20)])

    def test_sixty_instructions(self):
        self.assert_good([[("drop",)] * 60, [("say",)] * 60])

    def test_numbers_at_their_bounds(self):
        self.assert_good([[("num", BIG), ("num", -BIG), ("num", 0), ("num", -1)]])

    def test_own_values_at_their_bounds(self):
        self.assert_good([[("get", 0), ("get", 59)]])

    def test_kept_numbers_at_their_bounds(self):
        self.assert_good([[("fun", 0, ()), ("fun", 0, (0,) * 8), ("fun", 0, (59, 0, 59))]])

    def test_functions_of_the_first_and_the_last_body(self):
        self.assert_good([[("fun", 0, ()), ("fun", 19, ())]] + [[] for _ in range(19)])
        self.assert_good([[], [("fun", 1, ()), ("fun", 0, ())]])

    def test_places_at_their_bounds(self):
        self.assert_good([[("jump", 0), ("jump", 2)], [("unless", 0), ("unless", 2)]])
        self.assert_good([[("jump", 60)] * 60, [("unless", 60)] * 60])

    def test_places_are_those_of_their_own_body(self):
        self.assert_good([[], [("drop",)] * 4 + [("jump", 5)]])

    def test_the_lists_are_new(self):
        program = [[("num", 1)], []]
        answer = checked(program)
        self.assertIsNot(answer, program)
        for body, given in zip(answer, program):
            self.assertIsNot(body, given)
        other = checked(program)
        answer[0].append(("drop",))
        answer[1].append(("drop",))
        answer.append([])
        self.assert_exact(program, [[("num", 1)], []])
        self.assert_exact(other, [[("num", 1)], []])
        program[0].append(("say",))
        program.append([])
        self.assert_exact(other, [[("num", 1)], []])

    def test_one_body_that_stands_twice_gives_two_lists(self):
        body = [("num", 1)]
        answer = checked([body, body])
        self.assertIsNot(answer[0], answer[1])


class RefusedProgramsTest(ExactTest):
    def assert_no_instruction(self, *instructions):
        for instruction in instructions:
            with self.subTest(instruction=instruction):
                self.assert_refused(NoInstruction, checked, [[("drop",), instruction], []])

    def test_no_body(self):
        self.assert_refused(NoBodies, checked, [])

    def test_too_many_bodies(self):
        self.assert_refused(TooMany, checked, [[] for _ in range(21)])

    def test_too_many_instructions(self):
        self.assert_refused(TooMany, checked, [[("drop",)] * 61])
        self.assert_refused(TooMany, checked, [[("drop",)] * 60, [], [("drop",)] * 61])

    def test_unknown_words(self):
        self.assert_no_instruction(
            BAD, ("",), ("Add",), ("add ",), ("number", 1), ("nums", 1), ("goto", 0),
            ("at", 0), ("done", 0), ("hum", 0, ()), ("if", 0), ("put", 0), ("divide",),
        )

    def test_a_part_too_many(self):
        self.assert_no_instruction(
            *[(word, 0) for word in LONE_WORDS], *[(word, ()) for word in LONE_WORDS],
            ("num", 1, 2), ("get", 1, 2), ("fun", 0, (), ()), ("fun", 0, (), 0),
            ("jump", 0, 0), ("unless", 0, 0),
        )

    def test_a_part_too_few(self):
        self.assert_no_instruction(
            ("num",), ("get",), ("fun",), ("fun", 0), ("fun", ()), ("jump",), ("unless",),
        )

    def test_numbers_beyond(self):
        self.assert_no_instruction(
            ("num", BIG + 1), ("num", -BIG - 1), ("num", 10 ** 5000), ("num", -10 ** 5000),
            ("get", -1), ("get", 60), ("get", 10 ** 5000),
        )

    def test_kept_numbers_beyond(self):
        self.assert_no_instruction(
            ("fun", 0, (-1,)), ("fun", 0, (60,)), ("fun", 0, (0, 59, 60)), ("fun", 0, (-1, 0)),
            ("fun", 0, (0,) * 7 + (60,)), ("fun", 0, (0,) * 9), ("fun", 0, (0,) * 30),
        )

    def test_parts_of_another_kind(self):
        self.assert_no_instruction(
            ("num", "1"), ("num", ()), ("num", (1,)), ("get", "0"), ("get", ()), ("get", (0,)),
            ("fun", 0, 0), ("fun", 0, ""), ("fun", 0, "0"), ("fun", "0", ()), ("fun", (), ()),
            ("fun", (0,), 0), ("jump", "0"), ("jump", ()), ("unless", "0"), ("unless", (0,)),
        )

    def test_true_and_false_are_no_numbers(self):
        self.assert_no_instruction(
            ("num", True), ("get", False), ("fun", False, ()), ("fun", 0, (True,)),
            ("jump", False), ("unless", True),
        )

    def test_functions_of_bodies_that_there_are_not(self):
        for f in (2, 3, 20, 10 ** 5000, -1, -2, -10 ** 5000):
            self.assert_refused(NoBody, checked, [[("fun", f, ())], []])
            self.assert_refused(NoBody, checked, [[], [("drop",), ("fun", f, (0, 1))]])

    def test_a_function_of_the_only_body_and_the_one_behind(self):
        self.assert_refused(NoBody, checked, [[("fun", 0, ()), ("fun", 1, ())]])

    def test_places_that_there_are_not(self):
        for word in ("jump", "unless"):
            for p in (3, 4, 61, 10 ** 5000, -1, -2, -10 ** 5000):
                self.assert_refused(NoPlace, checked, [[("drop",), (word, p)], [("drop",)] * 60])

    def test_the_place_one_beyond_a_full_body(self):
        self.assert_refused(NoPlace, checked, [[("jump", 60)] * 59 + [("jump", 61)]])
        self.assert_refused(NoPlace, checked, [[("unless", 1), ("unless", 3)]])


class FirstRefusalTest(ExactTest):
    def test_too_many_bodies_comes_ahead_of_all_in_bodies(self):
        self.assert_refused(TooMany, checked, [[BAD], [FAR_BODY], [FAR_PLACE]] + [[]] * 18)

    def test_too_many_instructions_comes_ahead_of_its_instructions(self):
        for bad in (BAD, FAR_BODY, FAR_PLACE):
            self.assert_refused(TooMany, checked, [[bad] * 61])

    def test_in_one_instruction(self):
        for instruction in (
            ("fun", 99, (60,)), ("fun", -1, (0,) * 9), ("fun", 99, 0), ("fun", 99),
            ("fun", 99, (), ()), ("jump", 99, 99), ("unless", -1, 0), ("hum", 99),
        ):
            self.assert_refused(NoInstruction, checked, [[instruction]])

    def test_in_one_body_the_first_instruction_counts(self):
        cases = [(BAD, NoInstruction), (FAR_BODY, NoBody), (FAR_PLACE, NoPlace)]
        for first, error in cases:
            for second, _ in cases:
                self.assert_refused(error, checked, [[first, second]])
                self.assert_refused(error, checked, [[("drop",), first, ("add",), second]])

    def test_in_two_bodies_the_first_body_counts(self):
        cases = [
            ([BAD], NoInstruction), ([FAR_BODY], NoBody), ([("add",), FAR_PLACE], NoPlace),
            ([("drop",)] * 61, TooMany),
        ]
        for first, error in cases:
            for second, _ in cases:
                self.assert_refused(error, checked, [first, second])
                self.assert_refused(error, checked, [[], first, [("add",)], second])


if __name__ == "__main__":
    unittest.main()
