import unittest

from sleepwalk.errors import NoFit, NoWords
from sleepwalk.meeting import matched
from sleepwalk.sleeping import told
from sleepwalk.states import started
from sleepwalk.waking import woken
from tests.support import ExactTest

# bodies of three, no and one instruction
PROGRAM = [[("num", 1), ("drop",), ("jump", 0)], [], [("back",)]]
GREATEST = [[("drop",)] * 60 for _ in range(20)]
BIG = 10 ** 30
BIG_FIGURES = "1" + "0" * 30

# counts, bodies and places are never so
BELOW_NOUGHT = ("-1", "-2", "-3", "-8", "-60", "-" + BIG_FIGURES, "-" + "9" * 31)

# words that tell a state of PROGRAM, with all that words may tell
GOOD = [
    "runs 1 0 0 0 0",
    "runs 1 1 0 0 0",
    "runs 2 0 3 2 @0 -5 1 @1 2 1 0 3 @0 @2 0 box 7 fun 2 2 @3 8 box @2 fun 0 0",
    "stuck kind 1 2 1 1 5 2 @0 -6 fun 1 1 @0",
    "stuck end 2 0 3 0 0 1 0 0 0",
    "done 0 0",
    "done -40 0",
    "done @0 0 fun 0 3 @1 @2 @1 box @0 box -1",
]

# none of these is right at any place of any words
NEVER = [
    "", " ", "x", "RUNS", "Runs", "run", "runs ", " runs", "boxes", "fun ", "Done", "none",
    "01", "00", "007", "-0", "-00", "-01", "+1", "+0", "--1", "-+1", "-", "+", "1-", "- 1",
    " 1", "1 ", "1\n", "\n1", "\t1", "1 0", "1_0", "1.0", "1.", "1e1", "0x1", "1,000", "1L",
    "\u0661", "\uff11", "\u0967", "1\u0661", "-\u0661", "\u00b2", "\u2460", "\u00bd", "\u2212" + "1", "1\u00a0",
    "@", "@@0", "@-0", "@-1", "@+0", "@00", "@01", "@ 0", "@0 ", "0@", "@x", "@\u0660", "@\uff10", "@1_0",
    "@" + "9" * 31, "@" + "9" * 32, "@" + "9" * 5000,
    "1" + "0" * 31, "-1" + "0" * 31, "9" * 5000, "-" + "9" * 5000, "0" * 32, "0" * 31 + "1", "None", "True",
]


def at(number):
    return ("at", number)


class WordsTest(ExactTest):
    def assert_woken(self, words, state, program=None):
        """The words give this state, made anew, and are told by it again."""
        words = words.split(" ")
        program = PROGRAM if program is None else program
        self.assert_answer(state, woken, program, words)
        given = woken(program, words)
        self.assertEqual(list(given[2]), list(range(len(given[2]))))
        self.assert_exact(told(given), words)

    def assert_no_words(self, words):
        """These are no words, whichever program they are for."""
        words = words.split(" ") if isinstance(words, str) else words
        self.assert_refused(NoWords, woken, PROGRAM, words)
        self.assert_refused(NoWords, woken, [[]], words)
        self.assert_refused(NoWords, woken, GREATEST, words)

    def assert_no_fit(self, words, program=None):
        self.assert_refused(NoFit, woken, PROGRAM if program is None else program, words.split(" "))


class GoodWordsTest(WordsTest):
    def test_a_state_that_begins(self):
        self.assert_woken("runs 1 0 0 0 0", (None, [(0, 0, (), ())], {}))
        self.assert_exact(woken(PROGRAM, told(started(PROGRAM))), started(PROGRAM))

    def test_a_state_that_runs(self):
        self.assert_woken(
            "runs 2 0 3 2 @0 -5 1 @1 2 1 0 3 @0 @2 0 box 7 fun 2 2 @3 8 box @2 fun 0 0",
            (
                None,
                [(0, 3, (at(0), -5), (at(1),)), (2, 1, (), (at(0), at(2), 0))],
                {0: ("box", 7), 1: ("fun", 2, (at(3), 8)), 2: ("box", at(2)), 3: ("fun", 0, ())},
            ),
        )

    def test_a_state_that_is_done(self):
        self.assert_woken("done 0 0", (("done", 0), [], {}))
        self.assert_woken("done -40 0", (("done", -40), [], {}))
        self.assert_woken("done @0 0 box @0", (("done", at(0)), [], {0: ("box", at(0))}))
        self.assert_woken(
            "done @0 0 fun 0 3 @1 @2 @1 box @0 box -1",
            (("done", at(0)), [],
             {0: ("fun", 0, (at(1), at(2), at(1))), 1: ("box", at(0)), 2: ("box", -1)}),
        )

    def test_a_state_that_is_stuck(self):
        for word in ("end", "empty", "own", "kind", "great", "deep", "full"):
            self.assert_woken(
                f"stuck {word} 1 2 1 1 5 2 @0 -6 fun 1 1 @0",
                (("stuck", word), [(2, 1, (5,), (at(0), -6))], {0: ("fun", 1, (at(0),))}),
            )

    def test_numbers_at_their_bounds(self):
        for figures, number in (
            (BIG_FIGURES, BIG), ("-" + BIG_FIGURES, -BIG), ("9" * 30, BIG - 1), ("-" + "9" * 30, 1 - BIG),
        ):
            self.assert_woken(f"done {figures} 0", (("done", number), [], {}))
            self.assert_woken(
                f"runs 1 0 0 1 {figures} 3 {figures} @0 @1 box {figures} fun 0 1 {figures}",
                (None, [(0, 0, (number,), (number, at(0), at(1)))],
                 {0: ("box", number), 1: ("fun", 0, (number,))}),
            )

    def test_as_many_as_there_may_be(self):
        full = tuple(range(60))
        figures = "60 " + " ".join(str(number) for number in range(60))
        frame = f" 0 1 {figures} {figures}"
        self.assert_woken("runs 60" + frame * 60, (None, [(0, 1, full, full)] * 60, {}))
        self.assert_woken("stuck full 60" + frame * 60, (("stuck", "full"), [(0, 1, full, full)] * 60, {}))
        self.assert_woken(
            "done @0 0 fun 0 8 1 2 3 4 5 6 7 8", (("done", at(0)), [], {0: ("fun", 0, tuple(range(1, 9)))})
        )

    def test_bodies_and_places_at_their_bounds(self):
        self.assert_woken("runs 1 0 3 0 0", (None, [(0, 3, (), ())], {}))
        self.assert_woken("runs 1 2 1 0 0", (None, [(2, 1, (), ())], {}))
        self.assert_woken("done @0 0 fun 2 0", (("done", at(0)), [], {0: ("fun", 2, ())}))
        self.assert_woken(
            "runs 1 19 60 0 1 @0 fun 19 0",
            (None, [(19, 60, (), (at(0),))], {0: ("fun", 19, ())}), GREATEST,
        )

    def test_more_than_ten_things(self):
        """The tenth thing and those behind it have names of two figures."""
        boxes = " ".join(f"box @{number}" for number in range(1, 300))
        things = {number: ("box", at(number + 1)) for number in range(299)}
        things[299] = ("fun", 1, (at(299), at(0)))
        self.assert_woken(f"done @0 0 {boxes} fun 1 2 @299 @0", (("done", at(0)), [], things))

    def test_told_woken_and_told_again(self):
        for line in GOOD:
            words = line.split(" ")
            state = woken(PROGRAM, words)
            again = told(state)
            self.assert_exact(again, words)
            self.assert_exact(woken(PROGRAM, again), state)

    def test_things_get_the_numbers_in_which_they_are_met(self):
        state = (
            None, [(0, 0, (at(30), 30), (at(4), at(30)))],
            {30: ("box", at(7)), 2: ("box", 1), 4: ("fun", 1, (at(4), at(30), 4)), 7: ("box", at(7))},
        )
        given = (
            None, [(0, 0, (at(0), 30), (at(1), at(0)))],
            {0: ("box", at(2)), 1: ("fun", 1, (at(1), at(0), 4)), 2: ("box", at(2))},
        )
        self.assert_exact(woken(PROGRAM, told(state)), given)
        self.assert_exact(matched(state, given), {30: 0, 4: 1, 7: 2})


class NoWordsTest(WordsTest):
    def test_no_words(self):
        self.assert_no_words([])
        self.assert_no_words([""])

    def test_a_first_word_that_is_none(self):
        for word in ("end", "stuckend", "run", "RUNS", "running", "0", "1", "@0", "box", "fun", "", "none"):
            self.assert_no_words([word, "1", "0", "0", "0", "0"])
            self.assert_no_words([word, "0", "0"])
            self.assert_no_words([word, "end", "1", "0", "0", "0", "0"])
            self.assert_no_words([word])

    def test_the_parts_of_other_ends(self):
        self.assert_no_words("runs end 1 0 0 0 0")
        self.assert_no_words("runs 0 1 0 0 0 0")
        self.assert_no_words("done 1 0 0 0 0")
        self.assert_no_words("done end 0")
        self.assert_no_words("done 0")
        self.assert_no_words("stuck 1 0 0 0 0")
        self.assert_no_words("stuck 5 1 0 0 0 0")

    def test_another_word_behind_stuck(self):
        for word in ("End", "ends", "", "stuck", "runs", "done", "number", "kinds", "en", "endempty", "0", "@0"):
            self.assert_no_words(["stuck", word, "1", "0", "0", "0", "0"])

    def test_words_that_are_never_right(self):
        for line in GOOD:
            words = line.split(" ")
            for place in range(len(words)):
                for word in NEVER:
                    self.assert_refused(NoWords, woken, PROGRAM, words[:place] + [word] + words[place + 1:])

    def test_too_few_words(self):
        for line in GOOD:
            words = line.split(" ")
            for many in range(len(words)):
                self.assert_no_words(words[:many])

    def test_too_many_words(self):
        for line in GOOD:
            for more in ("0", "", "runs", "box 0", "box @0", "fun 0 0", "done 0 0", line):
                self.assert_no_words(line.split(" ") + more.split(" "))
        self.assert_no_words("done 0 0 box 1")
        self.assert_no_words("done @0 0 box 1 box 2")
        self.assert_no_words("done @0 0 box @0 box @1")

    def test_a_word_left_out_or_doubled(self):
        """What is left is now and then told by another state, but never by the old words."""
        for line in GOOD:
            words = line.split(" ")
            for place in range(len(words)):
                self.assert_sound(words[:place] + words[place + 1:])
                self.assert_sound(words[:place + 1] + words[place:])

    def test_other_words_at_each_place(self):
        """Words are refused, or they are just those by which their state is told."""
        others = ["runs", "done", "stuck", "end", "full", "box", "fun", "-1", "0", "1", "2", "3", "9"]
        others += ["60", "61", "@0", "@1", "@2", "@3", "@4", BIG_FIGURES]
        for line in GOOD:
            words = line.split(" ")
            for place in range(len(words)):
                for other in others:
                    self.assert_sound(words[:place] + [other] + words[place + 1:])

    def assert_sound(self, words):
        try:
            state = woken(PROGRAM, words)
        except (NoWords, NoFit):
            return
        self.assert_exact(told(state), words)

    def test_numbers_beyond_the_bounds(self):
        beyond = "1" + "0" * 29 + "1"
        for figures in (beyond, "-" + beyond, "9" * 31, "-" + "9" * 31, "1" + "0" * 31, "-1" + "0" * 31):
            self.assert_no_words(f"done {figures} 0")
            self.assert_no_words(f"runs 1 0 0 1 {figures} 0")
            self.assert_no_words(f"runs 1 0 0 0 1 {figures}")
            self.assert_no_words(f"done @0 0 box {figures}")
            self.assert_no_words(f"done @0 0 fun 0 1 {figures}")

    def test_numbers_of_more_than_31_figures(self):
        for figures in ("1" + "0" * 31, "9" * 32, "9" * 40, "9" * 6000):
            for sign in ("", "-"):
                number = sign + figures
                for line in (
                    "done {} 0", "done 0 {}", "runs {} 0 0 0 0", "runs 1 {} 0 0 0", "runs 1 0 {} 0 0",
                    "runs 1 0 0 {} 0", "runs 1 0 0 0 {}", "stuck {} 1 0 0 0 0", "done @0 0 box {}",
                    "done @0 0 fun {} 0", "done @0 0 fun 0 {}", "done @0 0 fun 0 1 {}", "done @{} 0 box 0",
                ):
                    self.assert_no_words(line.format(number))

    def test_frames_that_are_told_less_or_more(self):
        self.assert_no_words("runs 0")
        self.assert_no_words("stuck end 0")
        self.assert_no_words("runs -1")
        self.assert_no_words("runs 0 0 0 0 0")
        self.assert_no_words("done 0 1 0 0 0 0")
        self.assert_no_words("done 0 1")
        self.assert_no_words("done 0 -1")
        self.assert_no_words("done 0 2 0 0 0 0 0 0 0 0")

    def test_counts_beyond_the_bounds(self):
        frame = " 0 0 0 0"
        for many in (61, 62, 100):
            self.assert_no_words(f"runs {many}" + frame * many)
            self.assert_no_words(f"stuck end {many}" + frame * many)
            self.assert_no_words(f"runs 1 0 0 {many}" + " 5" * many + " 0")
            self.assert_no_words(f"runs 1 0 0 0 {many}" + " 5" * many)
        for many in (9, 10, 60):
            self.assert_no_words(f"done @0 0 fun 0 {many}" + " 5" * many)
        for many in (60, 8):
            self.assert_woken(f"runs 1 0 0 {many}" + " 5" * many + " 0", (None, [(0, 0, (5,) * many, ())], {}))

    def test_counts_below_nought(self):
        for many in BELOW_NOUGHT:
            self.assert_no_words(f"runs {many} 0 0 0 0")
            self.assert_no_words(f"done 0 {many}")
            self.assert_no_words(f"runs 1 0 0 {many} 0")
            self.assert_no_words(f"runs 1 0 0 0 {many}")
            self.assert_no_words(f"done @0 0 fun 0 {many}")

    def test_bodies_of_frames_below_nought(self):
        for body in BELOW_NOUGHT:
            for start in ("runs", "stuck end", "stuck deep"):
                self.assert_no_words(f"{start} 1 {body} 0 0 0")
                self.assert_no_words(f"{start} 2 {body} 0 0 0 0 0 0 0")
                self.assert_no_words(f"{start} 3 0 0 0 0 {body} 0 1 @0 0 1 0 0 0 box 5")

    def test_places_of_frames_below_nought(self):
        for place in BELOW_NOUGHT:
            for start in ("runs", "stuck end", "stuck kind"):
                for body in range(3):
                    self.assert_no_words(f"{start} 1 {body} {place} 0 0")
                self.assert_no_words(f"{start} 2 0 {place} 0 0 0 0 0 0")
                self.assert_no_words(f"{start} 3 0 0 0 0 1 {place} 0 1 @0 1 0 0 0 box 5")

    def test_bodies_of_functions_below_nought(self):
        for body in BELOW_NOUGHT:
            self.assert_no_words(f"done @0 0 fun {body} 0")
            self.assert_no_words(f"runs 1 0 0 0 1 @0 fun {body} 1 @1 fun 0 0")
            self.assert_no_words(f"stuck own 1 0 0 0 1 @0 fun 0 1 @1 fun {body} 0")

    def test_values_below_nought(self):
        """Of all numbers among the words only values may be below 0."""
        self.assert_woken(
            "runs 1 0 0 1 -1 2 -2 @0 fun 0 2 -3 @1 box -4",
            (None, [(0, 0, (-1,), (-2, at(0)))], {0: ("fun", 0, (-3, at(1))), 1: ("box", -4)}),
        )

    def test_a_thing_that_is_not_the_next_one(self):
        self.assert_no_words("done @1 0 box 5")
        self.assert_no_words("done @1 0 box 5 box 5")
        self.assert_no_words("runs 1 0 0 2 @1 @0 0 box 5 box 5")
        self.assert_no_words("runs 1 0 0 0 2 @0 @2 box 5 box 5 box 5")
        self.assert_no_words("runs 1 0 0 1 @0 1 @2 box 5 box 5 box 5")
        self.assert_no_words("runs 2 0 0 0 1 @1 0 0 0 1 @0 box 5 box 5")
        self.assert_no_words("done @0 0 box @2 box 0 box 0")
        self.assert_no_words("done @0 0 fun 0 2 @2 @1 box 0 box 0")
        self.assert_no_words("done @0 0 fun 0 2 @1 @3 box 0 box 0 box 0")
        self.assert_no_words("runs 1 0 0 0 2 @0 @1 box @3 box @2 box 0 box 0")

    def test_a_thing_that_is_met_already(self):
        box = {0: ("box", 5)}
        self.assert_woken("runs 1 0 0 2 @0 @0 1 @0 box 5", (None, [(0, 0, (at(0), at(0)), (at(0),))], box))
        self.assert_woken(
            "runs 1 0 0 0 3 @0 @1 @0 box @1 box @0",
            (None, [(0, 0, (), (at(0), at(1), at(0)))], {0: ("box", at(1)), 1: ("box", at(0))}),
        )
        self.assert_woken(
            "runs 2 0 0 0 2 @0 @1 0 0 0 2 @1 @2 box 5 box @0 box @1",
            (None, [(0, 0, (), (at(0), at(1))), (0, 0, (), (at(1), at(2)))],
             {0: ("box", 5), 1: ("box", at(0)), 2: ("box", at(1))}),
        )

    def test_things_that_are_not_told(self):
        self.assert_no_words("done @0 0")
        self.assert_no_words("runs 1 0 0 0 2 @0 @1 box 5")
        self.assert_no_words("done @0 0 box @1")

    def test_a_thing_of_another_word(self):
        for word in ("Box", "boxes", "function", "num", "at", "done", "0", "@0", ""):
            self.assert_no_words(["done", "@0", "0", word, "5"])
            self.assert_no_words(["done", "@0", "0", word, "0", "0"])
        self.assert_no_words("done @0 0 box 0 0")
        self.assert_no_words("done @0 0 fun 0")
        self.assert_no_words("done @0 0 fun 0 @0")
        self.assert_no_words("done @0 0 fun @0 0")

    def test_things_in_place_of_numbers(self):
        for line in (
            "done 0 @0", "runs @0 0 0 0 0", "runs 1 @0 0 0 0", "runs 1 0 @0 0 0", "runs 1 0 0 @0 0",
            "runs 1 0 0 0 @0",
        ):
            self.assert_no_words(line)
            self.assert_no_words(line + " box 0")


class NoFitTest(WordsTest):
    def test_bodies_of_frames(self):
        for body in ("3", "4", "20", "61", "9" * 30, BIG_FIGURES, "9" * 31):
            for start in ("runs", "stuck end", "stuck deep"):
                self.assert_no_fit(f"{start} 1 {body} 0 0 0")
                self.assert_no_fit(f"{start} 3 0 0 0 0 {body} 0 1 @0 0 1 0 0 0 box 5")

    def test_places_of_frames(self):
        for body, place in (
            (0, "4"), (1, "1"), (2, "2"), (2, "3"), (0, "60"), (0, "61"), (0, "9" * 30),
            (0, BIG_FIGURES), (1, "9" * 31),
        ):
            for start in ("runs", "stuck end", "stuck kind"):
                self.assert_no_fit(f"{start} 1 {body} {place} 0 0")
                self.assert_no_fit(f"{start} 3 0 0 0 0 {body} {place} 0 1 @0 1 0 0 0 box 5")

    def test_bodies_of_functions(self):
        for body in ("3", "4", "20", "61", "9" * 30, BIG_FIGURES, "9" * 31):
            self.assert_no_fit(f"done @0 0 fun {body} 0")
            self.assert_no_fit(f"runs 1 0 0 0 1 @0 fun {body} 1 @1 fun 0 0")
            self.assert_no_fit(f"stuck own 1 0 0 0 1 @0 fun 0 1 @1 fun {body} 0")

    def test_beyond_the_greatest_program(self):
        self.assert_no_fit("runs 1 20 0 0 0", GREATEST)
        self.assert_no_fit("runs 1 19 61 0 0", GREATEST)
        self.assert_no_fit("done @0 0 fun 20 0", GREATEST)

    def test_one_program_fits_where_another_does_not(self):
        words = "runs 1 2 1 0 1 @0 fun 1 0"
        self.assert_woken(words, (None, [(2, 1, (), (at(0),))], {0: ("fun", 1, ())}))
        self.assert_no_fit(words, [[], []])
        self.assert_no_fit(words, [[], [], []])
        self.assert_woken(words, woken(PROGRAM, words.split(" ")), [[], [], [("say",)] * 60])

    def test_a_state_that_is_done_fits_every_program(self):
        for program in (PROGRAM, GREATEST, [[]]):
            self.assert_woken("done @0 0 box 99", (("done", at(0)), [], {0: ("box", 99)}), program)

    def test_no_words_come_ahead(self):
        """The body or the place would not fit either, but the words tell no state at all."""
        self.assert_no_words("runs 1 99 0 0")
        self.assert_no_words("runs 1 99 0 0 0 0")
        self.assert_no_words("runs 1 99 99 0 1 x")
        self.assert_no_words("runs 1 99 0 0 1 @1 box 5")
        self.assert_no_words("runs 1 99 0 61" + " 5" * 61 + " 0")
        self.assert_no_words("runs 2 99 0 0 0 0 01 0 0")
        self.assert_no_words("runs 2 0 99 0 0 0 -0 0 0")
        self.assert_no_words("done @0 0 fun 99 1 @1")
        self.assert_no_words("done @0 0 fun 99 1 @1 box -0")
        self.assert_no_words("done @0 0 fun 99 0 box 5")
        self.assert_no_words("done @0 0 fun 99 9" + " 5" * 9)
        self.assert_no_words("done 5 1 99 0 0 0")
        self.assert_no_words("stuck here 1 99 0 0 0")

    def test_numbers_below_nought_come_ahead(self):
        """A number that is too great for the program stands ahead of one that is below 0."""
        for below in BELOW_NOUGHT:
            self.assert_no_words(f"runs 1 99 {below} 0 0")
            self.assert_no_words(f"runs 2 99 0 0 0 {below} 0 0 0")
            self.assert_no_words(f"runs 2 0 99 0 0 0 {below} 0 0")
            self.assert_no_words(f"runs 1 99 0 0 1 @0 fun {below} 0")
            self.assert_no_words(f"done @0 0 fun 99 1 @1 fun {below} 0")


if __name__ == "__main__":
    unittest.main()
