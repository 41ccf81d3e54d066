import unittest

from sleepwalk.sleeping import told
from sleepwalk.states import started
from tests.support import ExactTest

BIG = 10 ** 30
BIG_FIGURES = "1" + "0" * 30


def at(number):
    return ("at", number)


class ToldTest(ExactTest):
    def assert_told(self, words, end, frames, things):
        """The words are these, whatever the order of the keys in things."""
        self.assert_answer(words.split(" "), told, (end, frames, things))
        turned = dict(reversed(list(things.items())))
        self.assert_answer(words.split(" "), told, (end, frames, turned))

    def test_a_state_that_begins(self):
        self.assert_answer(["runs", "1", "0", "0", "0", "0"], told, started([[]]))

    def test_a_state_that_runs(self):
        self.assert_told(
            "runs 2 0 7 2 10 -20 1 30 3 12 0 2 4 50", None,
            [(0, 7, (10, -20), (30,)), (3, 12, (), (4, 50))], {},
        )

    def test_a_state_that_is_done(self):
        self.assert_told("done 0 0", ("done", 0), [], {})
        self.assert_told("done -12 0", ("done", -12), [], {})
        self.assert_told("done @0 0 box 5", ("done", at(7)), [], {7: ("box", 5)})
        self.assert_told("done @0 0 fun 2 1 @0", ("done", at(7)), [], {7: ("fun", 2, (at(7),))})

    def test_a_state_that_is_stuck(self):
        for word in ("end", "empty", "own", "kind", "great", "deep", "full"):
            self.assert_told(
                f"stuck {word} 1 2 3 1 4 2 @0 6 box 7", ("stuck", word),
                [(2, 3, (4,), (at(1), 6))], {1: ("box", 7)},
            )

    def test_numbers(self):
        for number, figures in (
            (0, "0"), (1, "1"), (-1, "-1"), (10, "10"), (-100, "-100"),
            (BIG, BIG_FIGURES), (-BIG, "-" + BIG_FIGURES), (BIG - 1, "9" * 30), (1 - BIG, "-" + "9" * 30),
        ):
            self.assert_told(f"done {figures} 0", ("done", number), [], {})
            self.assert_told(
                f"runs 1 0 0 1 {figures} 2 {figures} @0 box {figures}", None,
                [(0, 0, (number,), (number, at(0)))], {0: ("box", number)},
            )
            self.assert_told(
                f"runs 1 0 0 0 1 @0 fun 1 1 {figures}", None,
                [(0, 0, (), (at(0),))], {0: ("fun", 1, (number,))},
            )

    def test_places_and_bodies_at_their_bounds(self):
        self.assert_told(
            "runs 1 19 60 0 1 @0 fun 19 0", None, [(19, 60, (), (at(0),))], {0: ("fun", 19, ())}
        )

    def test_as_many_as_there_may_be(self):
        full = tuple(range(60))
        figures = "60 " + " ".join(str(number) for number in range(60))
        frame = f" 2 5 {figures} {figures}"
        self.assert_told("runs 60" + frame * 60, None, [(2, 5, full, full)] * 60, {})

    def test_a_function_that_keeps_nothing_and_one_that_keeps_eight(self):
        things = {0: ("fun", 4, ()), 1: ("fun", 5, tuple(range(8)))}
        frames = [(0, 0, (), (at(0), at(1)))]
        self.assert_told("runs 1 0 0 0 2 @0 @1 fun 4 0 fun 5 8 0 1 2 3 4 5 6 7", None, frames, things)

    def test_things_are_numbered_as_they_are_met(self):
        things = {
            40: ("box", at(2)), 2: ("fun", 6, (at(0), 2, at(40))), 0: ("box", 40),
            11: ("fun", 1, (at(11), at(2))), 9: ("box", at(9)),
        }
        frames = [(0, 1, (at(11),), (at(40), at(11))), (1, 0, (), (at(9), 0, at(40)))]
        self.assert_told(
            "runs 2 0 1 1 @0 2 @1 @0 1 0 0 3 @2 0 @1"
            " fun 1 2 @0 @3 box @3 box @2 fun 6 3 @4 2 @1 box 40",
            None, frames, things,
        )

    def test_more_than_ten_things(self):
        things = {number: ("box", number) for number in range(20)}
        frames = [(0, 0, (), tuple(at(19 - number) for number in range(12)))]
        names = " ".join(f"@{number}" for number in range(12))
        boxes = " ".join(f"box {19 - number}" for number in range(12))
        self.assert_told(f"runs 1 0 0 0 12 {names} {boxes}", None, frames, things)

    def test_no_word_about_things_that_are_not_met(self):
        things = {0: ("box", at(1)), 1: ("box", at(0)), 5: ("fun", 1, (at(6),)), 6: ("box", 8)}
        self.assert_told("runs 1 0 0 0 0", None, [(0, 0, (), ())], things)
        self.assert_told("runs 1 0 0 0 1 @0 box 8", None, [(0, 0, (), (at(6),))], things)
        self.assert_told("done 5 0", ("done", 5), [], things)

    def test_rings(self):
        things = {3: ("box", at(4)), 4: ("fun", 1, (at(3), at(5))), 5: ("box", at(5))}
        self.assert_told(
            "runs 1 0 0 0 1 @0 box @1 fun 1 2 @0 @2 box @2", None, [(0, 0, (), (at(3),))], things
        )
        self.assert_told(
            "runs 1 0 0 0 1 @0 fun 1 2 @1 @2 box @0 box @2", None, [(0, 0, (), (at(4),))], things
        )

    def test_the_same_words_for_states_that_are_alike(self):
        one = (None, [(0, 0, (at(3),), (at(0),))], {3: ("box", at(0)), 0: ("fun", 0, (at(3),))})
        other = (None, [(0, 0, (at(1),), (at(8),))],
                 {9: ("box", 1), 8: ("fun", 0, (at(1),)), 1: ("box", at(8))})
        self.assertEqual(told(one), told(other))


if __name__ == "__main__":
    unittest.main()
