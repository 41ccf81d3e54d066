"""Whole programs that are put to sleep and woken at every step."""

import unittest

from sleepwalk.meeting import matched, met
from sleepwalk.programs import checked
from sleepwalk.runs import run
from sleepwalk.sleeping import told
from sleepwalk.states import started
from sleepwalk.steps import stepped
from sleepwalk.waking import woken
from tests.examples import CHATTER, COUNTDOWN, EXAMPLES, FACTORIAL, RINGS, STUCK_PROGRAMS, WASTE
from tests.support import ExactTest


def all_states(program):
    """Give the states of the unbroken run, and what each step says, None at most of them."""
    state = started(program)
    states = [state]
    all_said = []
    while state[0] is None and len(states) < 300:
        state, said = stepped(program, state)
        states.append(state)
        all_said.append(said)
    return states, all_said


def shifted(state):
    """Give a state that is alike: other numbers, in another order, and things that are not met."""
    end, frames, things = state

    def moved(part):
        if isinstance(part, tuple) and part[:1] == ("at",):
            return ("at", 1000 - 7 * part[1])
        return tuple(moved(inner) for inner in part) if isinstance(part, tuple) else part

    other = {1000 - 7 * number: moved(thing) for number, thing in reversed(list(things.items()))}
    other[5000] = ("box", ("at", 5000))
    return moved(end), [moved(frame) for frame in frames], other


class GoingOnTest(ExactTest):
    def assert_alike(self, one, other):
        self.assertEqual(matched(one, other), dict(zip(met(one), met(other))))
        self.assertEqual(told(one), told(other))

    def test_what_is_woken_is_alike(self):
        for program in EXAMPLES:
            for state in all_states(checked(program))[0]:
                again = woken(program, told(state))
                self.assert_alike(state, again)
                self.assert_exact(woken(program, told(again)), again)
                self.assertEqual(sorted(again[2]), list(range(len(met(state)))))

    def test_slept_and_woken_at_every_step(self):
        for program in EXAMPLES:
            states, all_said = all_states(program)
            state = started(program)
            for behind, said in zip(states[1:], all_said):
                state, said_now = stepped(program, woken(program, told(state)))
                self.assertEqual(said_now, said)
                self.assert_alike(state, behind)

    def test_slept_and_woken_once(self):
        """At whichever step, the whole rest is said and the end is the same."""
        for program in EXAMPLES:
            unbroken, said_unbroken = run(program, started(program), 299)
            for steps in range(0, 299, 4):
                state, said = run(program, started(program), steps)
                behind, more = run(program, woken(program, told(state)), 299 - steps)
                self.assertEqual(said + more, said_unbroken)
                self.assert_alike(behind, unbroken)

    def test_alike_states_stay_alike(self):
        for program in EXAMPLES + [CHATTER]:
            state = started(program)
            other = shifted(state)
            for _ in range(299):
                self.assert_alike(state, other)
                if state[0] is not None:
                    break
                state, said = stepped(program, state)
                other, said_too = stepped(program, other)
                self.assertEqual(said_too, said)

    def test_alike_states_say_the_same_from_every_step_on(self):
        for program in (COUNTDOWN, RINGS, WASTE, STUCK_PROGRAMS["great"]):
            for state in all_states(program)[0]:
                other = shifted(state)
                self.assert_alike(state, other)
                behind, said = run(program, state, 299)
                behind_too, said_too = run(program, other, 299)
                self.assertEqual(said_too, said)
                self.assert_alike(behind, behind_too)

    def test_the_factorial_by_words_alone(self):
        """Nothing is handed on from step to step but words."""
        words = told(started(FACTORIAL))
        all_said = []
        while words[0] == "runs":
            state, said = run(FACTORIAL, woken(FACTORIAL, words), 1)
            words = told(state)
            all_said += said
        self.assertEqual(words, ["done", "3628800", "0"])
        self.assertEqual(all_said, ["3628800"])

    def test_rings_by_words_alone(self):
        words = told(started(RINGS))
        all_said = []
        while words[0] == "runs":
            state, said = run(RINGS, woken(RINGS, words), 5)
            words = told(state)
            all_said += said
        self.assertEqual(" ".join(words), "done @0 0 box @1 fun 1 3 @2 @0 @2 box @2")
        self.assertEqual(all_said, ["1", "box", "box", "box", "1", "2", "3", "function"])

    def test_what_gets_stuck_stays_so(self):
        for word, program in STUCK_PROGRAMS.items():
            state, _ = run(program, started(program), 299)
            self.assert_exact(state[0], ("stuck", word))
            again = woken(program, told(state))
            self.assert_exact(again[0], ("stuck", word))
            self.assert_exact(run(program, again, 299), (again, []))

    def test_a_loop_without_end(self):
        state, all_said = started(CHATTER), []
        for _ in range(100):
            state, said = run(CHATTER, woken(CHATTER, told(state)), 7)
            all_said += said
        self.assert_exact(state, (None, [(0, 1, (), (1,))], {}))
        self.assertEqual(all_said, ["1"] * 233)

    def test_waste_is_left_behind(self):
        state, _ = run(WASTE, started(WASTE), 299)
        self.assert_exact(state[0], ("done", ("at", 8)))
        self.assertEqual(len(state[2]), 9)
        self.assert_exact(woken(WASTE, told(state)), (("done", ("at", 0)), [], {0: ("box", 6)}))

    def test_asleep_and_awake_do_not_share(self):
        """What is done with the one changes nothing about the other."""
        state, _ = run(RINGS, started(RINGS), 40)
        words = told(state)
        again = woken(RINGS, words)
        before = told(again)
        state[1].clear()
        state[2].clear()
        words.clear()
        self.assertEqual(told(again), before)
        run(RINGS, again, 299)
        self.assertEqual(told(again), before)


if __name__ == "__main__":
    unittest.main()
