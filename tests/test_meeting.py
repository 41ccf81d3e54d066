import unittest
from copy import deepcopy
from itertools import permutations, product

from sleepwalk.meeting import matched, met
from tests.support import ExactTest

BIG = 10 ** 30


def at(number):
    return ("at", number)


def with_stack(*values):
    return [(0, 0, (), values)]


class MetTest(ExactTest):
    def assert_met(self, numbers, end, frames, things):
        """These are met, whatever the order of the keys in things."""
        self.assert_answer(numbers, met, (end, frames, things))
        turned = dict(reversed(list(things.items())))
        self.assert_answer(numbers, met, (end, frames, turned))

    def test_nothing(self):
        self.assert_met([], None, [(0, 0, (), ())], {})
        self.assert_met([], ("stuck", "end"), [(0, 0, (), ())] * 60, {})
        self.assert_met([], ("done", 5), [], {})

    def test_numbers_lead_to_nothing(self):
        things = {0: ("box", 1), 1: ("fun", 1, (0,))}
        self.assert_met([], None, [(0, 1, (0, 1), (1, 0))], things)
        self.assert_met([], ("done", 0), [], things)

    def test_the_value_of_the_end(self):
        things = {0: ("box", 4), 3: ("box", at(0)), 2: ("fun", 0, (at(3), at(2)))}
        self.assert_met([0], ("done", at(0)), [], things)
        self.assert_met([3, 0], ("done", at(3)), [], things)
        self.assert_met([2, 3, 0], ("done", at(2)), [], things)

    def test_own_values_come_ahead_of_the_stack(self):
        things = {number: ("box", number) for number in range(6)}
        frames = [(0, 0, (at(4), 7, at(2)), (at(5), at(0), 9, at(3)))]
        for end in (None, ("stuck", "kind")):
            self.assert_met([4, 2, 5, 0, 3], end, frames, things)

    def test_frames_from_the_lowest(self):
        things = {number: ("fun", 0, ()) for number in range(8)}
        frames = [
            (0, 0, (at(6),), (at(1),)), (1, 0, (), (at(7), at(5))), (1, 1, (), ()),
            (0, 1, (at(0), at(3)), ()), (2, 0, (at(2),), (at(4),)),
        ]
        self.assert_met([6, 1, 7, 5, 0, 3, 2, 4], None, frames, things)

    def test_each_is_met_at_its_first_place_alone(self):
        things = {1: ("box", 0), 2: ("box", at(1)), 3: ("fun", 0, (at(2), at(1)))}
        frames = [(0, 0, (at(2), at(2)), (at(1), at(2))), (0, 0, (at(1), at(3)), (at(3), at(1)))]
        self.assert_met([2, 1, 3], None, frames, things)

    def test_thing_by_thing(self):
        """What the first thing leads to is met ahead of what the second does, and so on."""
        things = {
            9: ("fun", 0, (at(1), 5, at(8))), 4: ("fun", 1, (at(0), at(7))),
            1: ("box", at(3)), 8: ("box", at(2)), 0: ("box", at(6)), 7: ("box", at(5)),
            3: ("box", 1), 2: ("fun", 0, ()), 6: ("box", 1), 5: ("box", 1),
        }
        order = [9, 4, 1, 8, 0, 7, 3, 2, 6, 5]
        self.assert_met(order, None, with_stack(at(9), at(4)), things)
        self.assert_met(order, None, [(0, 0, (at(9),), ()), (0, 0, (), (at(4),))], things)

    def test_frames_come_ahead_of_what_things_hold(self):
        things = {0: ("box", at(1)), 1: ("box", 5), 2: ("box", 5)}
        self.assert_met([0, 2, 1], None, with_stack(at(0), at(2)), things)
        self.assert_met([0, 1], None, with_stack(at(0), at(1)), things)
        self.assert_met([1, 0], None, with_stack(at(1), at(0)), things)

    def test_breadth_comes_ahead_of_depth(self):
        things = {
            0: ("fun", 0, (at(1), at(2))), 1: ("box", at(3)), 2: ("box", at(4)),
            3: ("box", at(5)), 4: ("box", 0), 5: ("box", at(4)),
        }
        self.assert_met([0, 1, 2, 3, 4, 5], None, with_stack(at(0)), things)

    def test_what_a_function_keeps_from_the_first(self):
        things = {number: ("box", 0) for number in range(8)}
        things[20] = ("fun", 3, tuple(at(number) for number in (5, 1, 7, 0, 2, 6, 3, 4)))
        self.assert_met([20, 5, 1, 7, 0, 2, 6, 3, 4], None, with_stack(at(20)), things)

    def test_a_box_that_holds_itself(self):
        self.assert_met([3], None, with_stack(at(3)), {3: ("box", at(3))})
        self.assert_met([3], ("done", at(3)), [], {3: ("box", at(3)), 1: ("box", at(3))})

    def test_a_function_that_keeps_itself(self):
        things = {3: ("fun", 0, (at(3), at(1), at(3))), 1: ("box", at(3))}
        self.assert_met([3, 1], None, with_stack(at(3)), things)

    def test_a_ring_of_boxes(self):
        things = {0: ("box", at(5)), 5: ("box", at(2)), 2: ("box", at(0))}
        self.assert_met([0, 5, 2], None, with_stack(at(0)), things)
        self.assert_met([2, 0, 5], None, with_stack(at(2)), things)
        self.assert_met([5, 0, 2], None, with_stack(at(5), at(0)), things)

    def test_functions_and_the_boxes_that_hold_them(self):
        things = {
            0: ("fun", 1, (at(4), at(1))), 4: ("box", at(2)),
            2: ("fun", 0, (at(1), at(4), at(0))), 1: ("box", at(0)),
        }
        self.assert_met([0, 4, 1, 2], None, with_stack(at(0)), things)
        self.assert_met([2, 1, 4, 0], None, with_stack(at(2)), things)
        self.assert_met([1, 0, 4, 2], None, with_stack(at(1)), things)

    def test_things_that_nothing_leads_to(self):
        things = {0: ("box", at(1)), 1: ("box", at(0)), 2: ("fun", 0, (at(3),)), 3: ("box", 5)}
        self.assert_met([], None, with_stack(1), things)
        self.assert_met([3], None, with_stack(at(3)), things)
        self.assert_met([1, 0], None, with_stack(at(1)), things)

    def test_numbers_with_gaps(self):
        things = {BIG: ("box", at(17)), 17: ("box", at(0)), 0: ("box", at(400)), 400: ("box", 1)}
        self.assert_met([BIG, 17, 0, 400], None, with_stack(at(BIG)), things)

    def test_a_long_row_of_boxes(self):
        things = {number: ("box", at(number - 1)) for number in range(1, 5000)}
        things[0] = ("box", 0)
        self.assert_met(list(range(4999, -1, -1)), None, with_stack(at(4999)), things)


class MatchedTest(ExactTest):
    def assert_matched(self, matching, one, other):
        """Two states have this matching, and turned round the same one turned round."""
        self.assert_answer(matching, matched, one, other)
        turned = None if matching is None else {there: here for here, there in matching.items()}
        self.assert_answer(turned, matched, other, one)

    def assert_alone(self, states):
        """Each of the states is alike to itself, none to another one."""
        for place, one in enumerate(states):
            self.assert_answer({number: number for number in met(one)}, matched, one, deepcopy(one))
            self.assert_answer({number: number for number in met(one)}, matched, one, one)
            for other in states[:place]:
                self.assert_matched(None, one, other)

    def test_without_things(self):
        for state in (
            (None, [(0, 0, (), ())], {}), (("stuck", "end"), [(1, 2, (3,), (4, 5))], {}),
            (("done", BIG), [], {}),
        ):
            self.assert_matched({}, state, deepcopy(state))

    def test_numbers_of_things(self):
        one = (None, with_stack(at(3), at(0)), {3: ("box", 5), 0: ("fun", 1, (at(3), 3, 0))})
        for three, none in ((0, 3), (3, 0), (7, 8), (8, 7), (BIG, 0), (0, 1)):
            things = {three: ("box", 5), none: ("fun", 1, (at(three), 3, 0))}
            for turned in (things, dict(reversed(list(things.items())))):
                other = (None, with_stack(at(three), at(none)), turned)
                self.assert_matched({3: three, 0: none}, one, other)

    def test_numbers_that_are_no_numbers_of_things_stay(self):
        one = (None, with_stack(at(3), 3), {3: ("box", 3)})
        self.assert_matched({3: 4}, one, (None, with_stack(at(4), 3), {4: ("box", 3)}))
        self.assert_matched(None, one, (None, with_stack(at(4), 4), {4: ("box", 3)}))
        self.assert_matched(None, one, (None, with_stack(at(4), 3), {4: ("box", 4)}))

    def test_the_end_is_changed_too(self):
        one = (("done", at(3)), [], {3: ("box", at(3))})
        self.assert_matched({3: 0}, one, (("done", at(0)), [], {0: ("box", at(0))}))

    def test_rings(self):
        one = (None, with_stack(at(0)), {0: ("box", at(1)), 1: ("box", at(2)), 2: ("box", at(0))})
        other = (None, with_stack(at(5)), {5: ("box", at(1)), 1: ("box", at(9)), 9: ("box", at(5))})
        self.assert_matched({0: 5, 1: 1, 2: 9}, one, other)

    def test_rings_of_other_lengths(self):
        """Without end they hold the same, but they share it otherwise."""
        rings = []
        for many in range(1, 5):
            things = {number: ("box", at((number + 1) % many)) for number in range(many)}
            rings.append((None, with_stack(at(0)), things))
        rings.append((None, with_stack(at(0)), {0: ("box", at(1)), 1: ("box", at(1))}))
        self.assert_alone(rings)

    def test_things_that_are_not_met(self):
        one = (None, with_stack(at(3)), {3: ("box", 5)})
        for more in ({0: ("box", 1)}, {4: ("fun", 0, (at(3),))}, {4: ("box", at(5)), 5: ("box", at(4))}):
            other = (None, with_stack(at(3)), {3: ("box", 5), **more})
            self.assert_matched({3: 3}, one, other)
        other = (None, with_stack(at(0)), {0: ("box", 5), 3: ("box", 6)})
        self.assert_matched({3: 0}, one, other)

    def test_ends(self):
        frames = [(0, 0, (), ())]
        self.assert_alone(
            [(None, frames, {})]
            + [(("stuck", word), frames, {}) for word in ("end", "empty", "own", "kind", "great", "deep", "full")]
            + [(("done", value), [], {0: ("box", 0), 1: ("fun", 0, ())})
               for value in (0, 1, -1, at(0), at(1))]
        )

    def test_frames(self):
        frame = (0, 1, (2,), (3,))
        other_frames = [
            (1, 1, (2,), (3,)), (0, 0, (2,), (3,)), (0, 1, (4,), (3,)), (0, 1, (2,), (4,)),
            (0, 1, (2, 0), (3,)), (0, 1, (2,), (3, 0)), (0, 1, (), (3,)), (0, 1, (2,), ()),
            (0, 1, (2, 3), ()), (0, 1, (), (2, 3)),
        ]
        self.assert_alone(
            [(None, [one], {}) for one in [frame] + other_frames]
            + [(None, [frame, one], {}) for one in [frame] + other_frames]
            + [(None, [one, frame], {}) for one in other_frames]
        )

    def test_things(self):
        things = [
            ("box", 5), ("box", 6), ("box", at(0)), ("fun", 5, ()), ("fun", 6, ()), ("fun", 5, (5,)),
            ("fun", 5, (5, 5)), ("fun", 5, (at(0),)), ("fun", 5, (6,)), ("fun", 5, (at(0), 5)),
        ]
        self.assert_alone([(None, with_stack(at(0)), {0: thing}) for thing in things])
        self.assert_alone([(("done", at(0)), [], {0: thing}) for thing in things])
        self.assert_alone(
            [(None, with_stack(at(1)), {1: ("box", at(0)), 0: thing}) for thing in things]
        )

    def test_how_things_are_shared(self):
        two = {0: ("box", 5), 1: ("box", 5)}
        self.assert_alone([
            (None, with_stack(at(0), at(0)), two), (None, with_stack(at(0), at(1)), two),
            (None, with_stack(at(0)), two), (None, with_stack(at(0), 0), two),
        ])
        self.assert_matched(
            {0: 1, 1: 0}, (None, with_stack(at(0), at(1)), two), (None, with_stack(at(1), at(0)), two)
        )
        keepers = {2: ("fun", 0, (at(0), at(0))), 3: ("fun", 0, (at(0), at(1))), **two}
        self.assert_alone([(None, with_stack(at(2)), keepers), (None, with_stack(at(3)), keepers)])

    def test_two_that_may_not_be_matched_with_one(self):
        """In each, two boxes are met; only in one of them are they the same."""
        two = (None, with_stack(at(0), at(1), at(0)), {0: ("box", 5), 1: ("box", 5)})
        other = (None, with_stack(at(0), at(1), at(1)), {0: ("box", 5), 1: ("box", 5)})
        self.assert_alone([two, other])

    def test_against_every_matching_there_could_be(self):
        values = (0, at(0), at(1))
        things = [("box", value) for value in values]
        things += [("fun", 0, kept) for kept in ((), (at(0),), (at(1), at(0)))]
        states = [
            (None, [(0, 0, (own,), (value,))], {0: zero, 1: one})
            for own, value, zero, one in product(values, values, things, things)
        ]
        for one in states[::5]:
            for other in states[::3]:
                matchings = [found for found in every_matching(one, other) if is_matching(one, other, found)]
                self.assertLessEqual(len(matchings), 1)
                self.assertEqual(matched(one, other), matchings[0] if matchings else None)


def every_matching(one, other):
    numbers, others = sorted(met(one)), met(other)
    if len(numbers) != len(others):
        return []
    return [dict(zip(numbers, row)) for row in permutations(others)]


def is_matching(one, other, matching):
    """Tell if these states of one frame are the same when numbers are changed by the matching."""
    def changed(part):
        if isinstance(part, tuple) and part[:1] == ("at",):
            return at(matching[part[1]])
        return tuple(changed(inner) for inner in part) if isinstance(part, tuple) else part

    if changed(one[1][0]) != other[1][0]:
        return False
    return all(changed(one[2][here]) == other[2][there] for here, there in matching.items())


if __name__ == "__main__":
    unittest.main()
