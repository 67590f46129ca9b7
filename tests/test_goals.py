"""Points [2], [3] and [7]: goals of cases."""

import unittest

from surepresses.cases import Case
from surepresses.devices import Device
from surepresses.errors import InvalidGoal
from tests.support import assert_raises, lists_in, spoil
from tests.test_devices import wide

HUGE = 10 ** 59


def five():
    """Return a case of a device with five states, of which 0, 2 and 3 are possible."""
    return Case(Device(["a"], [], [{"a": (0, [])}] * 5), [0, 2, 3])


class MetTest(unittest.TestCase):
    def check(self, goal, met, unmet):
        for belief in met:
            self.assertIs(five().meets(belief, goal), True, (belief, goal))
        for belief in unmet:
            self.assertIs(five().meets(belief, goal), False, (belief, goal))

    def test_now(self):
        self.check(
            ("now",), [[(0, 0)], [(0, 4), (2, 4)], [(0, 1), (2, 1), (3, 1)]],
            [[(0, 0), (2, 2)], [(0, 4), (2, 4), (3, 1)], [(0, 1), (2, 4), (3, 4)], [(0, 4), (2, 1), (3, 4)]])

    def test_first(self):
        self.check(
            ("first",), [[(0, 0)], [(3, 1)]], [[(0, 4), (2, 4)], [(0, 1), (2, 1), (3, 1)], [(2, 0), (3, 4)]])

    def test_group(self):
        self.check(
            ("group", [[0, 3], [2]]), [[(0, 0)], [(2, 0)], [(3, 4)], [(0, 1), (3, 2)]],
            [[(0, 0), (2, 0)], [(2, 2), (3, 2)], [(0, 0), (2, 2), (3, 3)]])
        self.check(("group", [[3, 2, 0]]), [[(0, 0)], [(0, 0), (2, 2), (3, 3)], [(0, 1), (3, 2)]], [])
        self.check(("group", [[3], [0], [2]]), [[(0, 0)], [(3, 2)]], [[(0, 0), (3, 0)], [(0, 0), (2, 2), (3, 3)]])

    def test_other_integers_and_empty_lists_in_groups(self):
        goal = ("group", [[1, 4, 1], [], [0, 1, HUGE, -HUGE], [], [9, 2, -1, 9, 3, 4], [-1, 9]])
        self.check(goal, [[(0, 4)], [(2, 0), (3, 1)]], [[(0, 0), (2, 0)], [(0, 1), (3, 1)]])

    def test_in(self):
        self.check(
            ("in", [4, 1, 4]), [[(0, 4)], [(0, 1), (2, 4)], [(0, 1), (2, 1), (3, 4)]],
            [[(0, 0)], [(0, 1), (2, 2)], [(0, 3), (2, 4), (3, 4)], [(0, 4), (2, 4), (3, 0)]])
        self.check(("in", []), [], [[(0, 0)], [(0, 1), (2, 1)]])
        self.check(("in", [0, 1, 2, 3, 4]), [[(0, 0)], [(0, 1), (2, 2), (3, 4)]], [])

    def test_many_states(self):
        case = Case(Device(*wide()), list(range(20)))
        groups = [[0, 19], list(range(1, 19))]
        self.assertIs(case.meets([(0, 3), (19, 4)], ("group", groups)), True)
        self.assertIs(case.meets([(0, 3), (18, 3)], ("group", groups)), False)
        self.assertIs(case.meets(case.start, ("in", list(range(20)))), True)
        self.assertIs(case.meets(case.start, ("in", list(range(19)))), False)

    def test_arguments_stay_as_they_were(self):
        goal = ("group", [[3, 0], [2, 9]])
        belief = [(0, 1), (3, 1)]
        five().meets(belief, goal)
        self.assertEqual([goal, belief], [("group", [[3, 0], [2, 9]]), [(0, 1), (3, 1)]])

    def test_a_later_change_of_a_goal_counts_for_the_next_call_only(self):
        goal = ("in", [1])
        case = five()
        self.assertIs(case.meets([(0, 1)], goal), True)
        goal[1][0] = 2
        self.assertIs(case.meets([(0, 1)], goal), False)


class GoalErrorTest(unittest.TestCase):
    def check(self, goal):
        for belief in ([(0, 0)], five().start):
            assert_raises(self, InvalidGoal, goal, five().meets, belief, goal)

    def test_another_first_entry(self):
        for word in ("", "Now", "NOW", "now ", "nows", "firsts", "groups", "inn", "i", "end", "~"):
            self.check((word,))
            self.check((word, 0))
            self.check((word, 0, HUGE))

    def test_another_number_of_entries(self):
        for goal in (("now", 0), ("first", 2), ("now", 1, 2), ("first", 0, 0), ("group",), ("in",)):
            self.check(goal)
        self.check(("group", [[0, 2, 3]], 0))
        self.check(("in", [0], 0))
        self.check(("in", [0], 0, 1, 2))

    def test_possible_states_in_none_or_in_two_places(self):
        for groups in (
                [], [[]], [[0, 2]], [[0], [3]], [[2], [3]], [[1, 4]], [[0, 2, 3, 0]], [[0, 2], [3, 0]],
                [[0, 2, 3], [0, 2, 3]], [[0, 0, 2], [3]], [[0], [2], [3], [3]], [[0, 1], [2, 1], [4, 9]]):
            self.check(("group", groups))

    def test_entries_that_are_no_state_of_the_device(self):
        for states in ([5], [-1], [0, 1, 5], [-1, 0], [HUGE], [-HUGE], [0, 0, 5, 0]):
            self.check(("in", states))

    def test_the_stored_tuple_shares_no_list(self):
        twice = [0, 2]
        for goal in (("group", [twice, twice]), ("group", [[0], [0], []]), ("in", [7, 8]), ("in", [0], 4), ("x", 5)):
            with self.assertRaises(InvalidGoal) as caught:
                five().meets([(0, 0)], goal)
            stored = caught.exception.value
            self.assertIs(type(stored), tuple)
            self.assertEqual(stored, goal)
            places = lists_in(stored)
            self.assertEqual(len({id(place) for place in places}), len(places))
            self.assertFalse({id(place) for place in places} & {id(place) for place in lists_in(goal)})
            kept = repr(stored)
            spoil(goal)
            self.assertEqual(repr(stored), kept)
