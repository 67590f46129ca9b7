"""Points [2], [3], [9] and [10]: fixed rows, their spreads, and closed lists of spreads."""

import copy
import random
import unittest

from surepresses import rows
from surepresses.cases import Case
from surepresses.devices import Device
from surepresses.errors import Harmful, UnknownButton
from surepresses.rows import closed_rows, is_right_row, judge_rows, least_row, spread
from tests import oracle
from tests.support import (
    assert_by_name, assert_fresh, assert_goal_errors, assert_keeps_arguments, assert_raises, steps_of,
)
from tests.test_plans import mixing, numbered, small


def sorting():
    """Return a device without harm whose presses lead from three states to each spread."""
    return Device(["turn", "swap", "join", "tell"], ["x"], [
        {"turn": ((state + 1) % 5, []), "swap": ((1, 0, 2, 3, 4)[state], []), "join": (max(state, 1), []),
         "tell": (state, ["x"] if state == 4 else [])} for state in range(5)])


class DocumentTest(unittest.TestCase):
    def test_examples(self):
        device = Device(["push", "turn"], ["red"], [
            {"push": (1, []), "turn": (0, ["red"])}, {"push": (2, []), "turn": (1, [])}, {"push": (2, ["red"])}])
        case = Case(device, [0, 1, 2])
        self.assertEqual(
            [spread(case, ["push"]), least_row(case, ("first",)), is_right_row(case, ("now",), ["push"]),
             least_row(Case(device, [0, 1]), ("first",)), is_right_row(case, ("first",), ["turn"])],
            [[[(0, 1), (1, 2)], [(2, 2)]], ["push", "push"], False, ["turn"], False])
        blind = case.with_lamps([])
        self.assertEqual(
            [least_row(blind, ("now",)), closed_rows(case, ("now",)),
             judge_rows(blind, ("first",), closed_rows(blind, ("first",))),
             judge_rows(blind, ("first",), [[[(0, 0), (1, 1), (2, 2)]]])],
            [["push", "push"], None, True, False])

    def test_functions_are_defined_in_the_file(self):
        for name in ("spread", "is_right_row", "least_row", "closed_rows", "judge_rows"):
            self.assertEqual(getattr(rows, name).__module__, "surepresses.rows")


class SpreadTest(unittest.TestCase):
    def check(self, case, row, wanted):
        found = spread(case, row)
        self.assertEqual(found, wanted)
        self.assertEqual(found, oracle.spread_of(case, row))
        self.assertEqual({type(place) for place in [found] + found}, {list})
        self.assertEqual({type(entry) for belief in found for entry in belief}, {tuple})

    def test_the_empty_row(self):
        self.check(Case(small(), [2, 0]), [], [[(0, 0), (2, 2)]])
        self.check(Case(small(), [1], buttons=[]), [], [[(1, 1)]])

    def test_rows(self):
        case = Case(small(), [0, 1, 2])
        self.check(case, ["push"], [[(0, 1), (1, 2)], [(2, 2)]])
        self.check(case, ["push", "push"], [[(0, 2)], [(1, 2)], [(2, 2)]])
        self.check(Case(small(), [0, 1]), ["turn"], [[(0, 0)], [(1, 1)]])
        self.check(Case(small(), [0, 1], lamps=[]), ["turn", "push", "push"], [[(0, 2), (1, 2)]])
        self.check(case.with_lamps([]), ["push"], [[(0, 1), (1, 2), (2, 2)]])

    def test_beliefs_ascend_whatever_the_answers_are(self):
        device = Device(["a"], ["y", "x"], [{"a": (2, ["y"])}, {"a": (0, ["x"])}, {"a": (1, [])}, {"a": (0, ["y"])}])
        self.check(Case(device, [0, 1, 2]), ["a"], [[(0, 2)], [(1, 0)], [(2, 1)]])
        self.check(Case(device, [0, 1, 3]), ["a"], [[(0, 2), (3, 0)], [(1, 0)]])
        self.check(Case(device, [3, 1]), ["a"], [[(1, 0)], [(3, 0)]])
        self.check(Case(device, [0, 1, 3], lamps=["x"]), ["a"], [[(0, 2), (3, 0)], [(1, 0)]])

    def test_states_that_were_told_apart_stay_apart(self):
        device = Device(["tell", "join"], ["x"], [
            {"tell": (0, ["x"]), "join": (0, [])}, {"tell": (1, []), "join": (0, [])}, {"tell": (2, []), "join": (0, [])}])
        case = Case(device, [0, 1, 2])
        self.check(case, ["tell", "join"], [[(0, 0)], [(1, 0), (2, 0)]])
        self.check(case, ["join", "tell"], [[(0, 0), (1, 0), (2, 0)]])
        self.check(case, ["tell", "join", "tell"], [[(0, 0)], [(1, 0), (2, 0)]])

    def test_long_rows(self):
        case = Case(sorting(), [0, 2, 4])
        self.check(case, ["turn"] * 20, [[(0, 0), (2, 2), (4, 4)]])
        self.check(case, ["turn"] * 19 + ["tell"], [[(0, 4)], [(2, 1), (4, 3)]])
        self.check(case, ["turn", "tell"] * 10, [[(0, 0)], [(2, 2)], [(4, 4)]])
        self.assertLess(steps_of(spread, case, ["turn", "tell"] * 10)[1], 20 * 2000)

    def test_buttons_that_are_not_usable(self):
        case = Case(small(), [0, 1, 2], buttons=["push"])
        for wrong in ("turn", "pull", "", "red", "PUSH", "~"):
            assert_raises(self, UnknownButton, wrong, spread, case, [wrong])
            assert_raises(self, UnknownButton, wrong, spread, case, ["push", wrong, "other", "turn"])
        assert_raises(self, UnknownButton, "none", spread, Case(small(), [0, 1, 2]), ["turn", "none"])
        assert_raises(self, UnknownButton, "none", spread, Case(small(), [2]), ["push", "turn", "push", "none", "no"])

    def test_harm(self):
        case = Case(small(), [0, 1, 2])
        assert_raises(self, Harmful, 0, spread, case, ["turn"])
        assert_raises(self, Harmful, 0, spread, case, ["turn", "turn"])
        assert_raises(self, Harmful, 1, spread, case, ["push", "turn", "push"])
        assert_raises(self, Harmful, 1, spread, Case(small(), [0, 1]), ["push", "turn"])
        assert_raises(self, Harmful, 2, spread, Case(small(), [0]), ["push", "push", "turn"])
        assert_raises(self, Harmful, 19, spread, case, ["push"] * 19 + ["turn"])
        self.check(Case(small(), [0]), ["push", "turn"], [[(0, 1)]])
        # Each press is harmful for another possible state: the first press counts, not the first state.
        device = Device(["a"], [], [{"a": (2, [])}, {}, {"a": (3, [])}, {}])
        assert_raises(self, Harmful, 0, spread, Case(device, [0, 1]), ["a", "a", "a"])
        assert_raises(self, Harmful, 1, spread, Case(device, [0, 2]), ["a", "a", "a"])
        assert_raises(self, Harmful, 2, spread, Case(device, [0]), ["a", "a", "a"])

    def test_random_rows(self):
        rng = random.Random(11)
        harmful = 0
        for case in oracle.random_cases(11, 150, 4, 3):
            for _ in range(6):
                row = [rng.choice(case.buttons) for _ in range(rng.randrange(6))] if case.buttons else []
                wanted = oracle.spread_of(case, row)
                if wanted is None:
                    harmful += 1
                    place = min(end for end in range(len(row)) if oracle.spread_of(case, row[:end + 1]) is None)
                    assert_raises(self, Harmful, place, spread, case, row)
                else:
                    self.assertEqual(spread(case, row), wanted)
        self.assertGreater(harmful, 30)

    def test_arguments(self):
        case = Case(small(), [0, 1, 2])
        assert_by_name(self, spread, ("case", case), ("row", ["push"]))
        assert_keeps_arguments(self, lambda row: spread(case, row), ["push", "push"])
        assert_fresh(self, lambda: spread(case, ["push"]))
        assert_fresh(self, lambda: spread(case, []))
        assert_fresh(self, lambda: spread(case, ["push"] * 20))


class RightRowTest(unittest.TestCase):
    def check(self, case, goal, right, wrong):
        for row in right:
            self.assertIs(is_right_row(case, goal, row), True, row)
            self.assertTrue(oracle.is_right_by_runs(case, goal, row))
        for row in wrong:
            self.assertIs(is_right_row(case, goal, row), False, row)
            self.assertFalse(oracle.is_right_by_runs(case, goal, row))

    def test_each_kind_of_goal(self):
        case = Case(small(), [0, 1, 2])
        self.check(case, ("first",), [["push"] * 2, ["push"] * 20], [[], ["push"]])
        self.check(case, ("now",), [["push"] * 2, ["push"] * 3], [[], ["push"]])
        self.check(case, ("group", [[1, 0], [2]]), [["push"], ["push"] * 2], [[]])
        self.check(case, ("group", [[0], [9], [1, 2]]), [["push"] * 2], [[], ["push"]])
        self.check(case, ("group", [[0, 1, 2]]), [[], ["push"]], [])
        self.check(case, ("in", [1, 2]), [["push"], ["push"] * 2], [[]])
        self.check(case, ("in", [2]), [["push"] * 2], [[], ["push"]])
        self.check(case, ("in", [0, 1, 2]), [[], ["push"]], [["turn"]])
        self.check(case, ("in", []), [], [[], ["push"], ["push"] * 2])
        self.check(Case(small(), [1]), ("in", [1]), [[], ["turn"], ["turn"] * 3], [["push"], ["push", "turn"]])

    def test_only_the_end_of_the_row_counts(self):
        case = Case(sorting(), [2, 3])
        self.check(case, ("in", [2, 3]), [[], ["turn"] * 5, ["swap"]], [["turn"], ["turn"] * 4])
        device = Device(["a"], [], [{"a": (1, [])}, {"a": (0, [])}, {"a": (2, [])}])
        self.check(Case(device, [0]), ("in", [0]), [[], ["a"] * 2], [["a"], ["a"] * 3])

    def test_beliefs_of_the_same_answers(self):
        case = Case(sorting(), [0, 4])
        self.check(case, ("now",), [["tell"], ["turn", "join"], ["tell", "turn"]], [["turn"], []])
        self.check(case, ("first",), [["tell"], ["tell", "turn", "join"]], [["turn", "join"], ["turn", "join", "tell"]])
        self.check(case.with_lamps([]), ("now",), [["turn", "join"]], [["tell"], ["tell", "turn"]])

    def test_wrong_buttons_and_harm(self):
        case = Case(small(), [0, 1], buttons=["push"])
        for wrong in ("turn", "pull", "", "red", "PUSH", "~"):
            for goal in (("first",), ("now",), ("in", [0, 1, 2]), ("group", [[0, 1]])):
                self.check(case, goal, [], [[wrong], ["push", "push", wrong], [wrong, "push", "push"]])
        case = Case(small(), [0, 1, 2])
        for goal in (("first",), ("now",), ("in", [0, 1, 2]), ("group", [[0, 1, 2]])):
            self.check(case, goal, [["push", "push"]], [
                ["turn"], ["push", "turn"], ["push", "push", "turn"], ["turn", "push", "push"], ["turn", "none"]])
        self.check(Case(small(), [0, 1]), ("first",), [["turn"]], [["push", "turn"]])

    def test_an_invalid_goal_ahead_of_a_wrong_row(self):
        for row in ([], ["none"], ["a"], ["b", "b"], ["a", "none"]):
            assert_goal_errors(self, is_right_row, row)

    def test_arguments(self):
        case = Case(small(), [0, 1, 2])
        assert_by_name(self, is_right_row, ("case", case), ("goal", ("first",)), ("row", ["push", "push"]))
        for row in ([], ["push"], ["turn", "none"]):
            assert_keeps_arguments(
                self, lambda goal, row: is_right_row(case, goal, row), ("group", [[0, 1], [2]]), list(row))


class LeastRowTest(unittest.TestCase):
    def check(self, case, goal, row):
        self.assertEqual(least_row(case, goal), row)
        listed = closed_rows(case, goal)
        if row is None:
            self.assertTrue(oracle.is_closed_spreads(case, goal, listed))
            self.assertIs(judge_rows(case, goal, listed), True)
        else:
            self.assertIsNone(listed)
            self.assertTrue(oracle.is_right_by_runs(case, goal, row))

    def test_the_empty_row(self):
        for goal in (("now",), ("first",), ("group", [[1]]), ("in", [1, 0])):
            self.check(Case(small(), [1]), goal, [])
            self.check(Case(small(), [1], buttons=[]), goal, [])
        self.check(Case(small(), [0, 1, 2]), ("in", [0, 1, 2]), [])
        self.check(Case(small(), [0, 1, 2]), ("group", [[2, 0, 1]]), [])

    def test_none(self):
        self.check(Case(small(), [0, 1, 2], buttons=["turn"]), ("now",), None)
        self.check(Case(small(), [0, 1, 2], lamps=[]), ("first",), None)
        self.check(Case(small(), [0, 1], buttons=[]), ("first",), None)
        self.check(Case(small(), [1]), ("in", [0]), None)
        self.check(Case(small(), [1]), ("in", []), None)
        self.check(Case(Device([], [], [{}, {}]), [0, 1]), ("now",), None)
        device = Device(["a"], ["y"], [{"a": (1, ["y"])}, {"a": (0, ["y"])}, {"a": (2, [])}])
        self.check(Case(device, [0, 1, 2]), ("first",), None)
        self.check(Case(device, [0, 1, 2]), ("group", [[1, 0], [2]]), ["a"])

    def test_a_plan_without_a_row(self):
        # Dark is harmful in 2 and 3, so a plan presses it only where high told that it is neither.
        case = Case(numbered(), [0, 1, 2], lamps=["twos"], buttons=["high", "dark"])
        self.check(case, ("now",), None)

    def test_the_order_of_the_buttons(self):
        steps = {"c": (0, ["y"]), "a": (0, ["y"]), "b": (0, [])}
        others = {"c": (1, []), "a": (1, []), "b": (1, [])}
        for buttons in (["c", "b", "a"], ["b", "a", "c"], ["a", "c", "b"]):
            case = Case(Device(buttons, ["y"], [steps, others]), [0, 1])
            for goal in (("first",), ("now",), ("group", [[0], [1]])):
                self.check(case, goal, [[button for button in buttons if button != "b"][0]])
        case = Case(sorting(), [0, 1])
        self.check(case, ("now",), ["join"])
        self.check(Case(sorting(), [0, 1], buttons=["tell", "join"]), ("now",), ["join"])
        # The least row is the shortest one, then that whose buttons come first, not that of the least last button.
        self.check(case, ("first",), ["turn", "turn", "turn", "tell"])
        self.check(Case(sorting(), [0, 3]), ("first",), ["turn", "tell"])
        self.check(Case(sorting(), [0, 2, 3]), ("first",), ["turn", "tell", "turn", "tell"])

    def test_harmful_buttons_are_left_out(self):
        device = Device(["a", "b"], ["y"], [{"a": (0, ["y"]), "b": (0, ["y"])}, {"b": (1, [])}])
        self.check(Case(device, [0, 1]), ("first",), ["b"])
        device = Device(["a", "b"], ["y"], [{"a": (0, ["y"]), "b": (0, ["y"])}, {"b": (0, []), "a": (2, [])}, {}])
        self.check(Case(device, [0, 1]), ("first",), ["a"])
        self.check(Case(device, [0, 1]), ("in", [0]), ["b"])

    def test_against_all_short_rows(self):
        rng = random.Random(12)
        lengths = {}
        for case in oracle.random_cases(12, 120, 4, 3) + oracle.random_cases(13, 60, 3, 3):
            limit = {0: 1, 1: 8, 2: 6, 3: 4}[len(case.buttons)]
            tried = [(row, oracle.spread_of(case, row)) for row in oracle.rows_up_to(case, limit)]
            for goal in oracle.goals_of(case, rng):
                first = None
                for row, found in tried:
                    if found is not None and all(oracle.is_met(goal, belief) for belief in found):
                        first = row
                        break
                least = least_row(case, goal)
                if first is not None or least is None or len(least) <= limit:
                    self.assertEqual(least, first)
                self.check(case, goal, least)
                length = None if least is None else len(least)
                lengths[length] = lengths.get(length, 0) + 1
        for length in (None, 0, 1, 2, 3):
            self.assertGreater(lengths[length], 5)

    def test_right_rows_of_random_cases(self):
        rng = random.Random(14)
        for case in oracle.random_cases(14, 60, 4, 3):
            for goal in oracle.goals_of(case, rng):
                for row in oracle.rows_up_to(case, 3):
                    self.assertIs(is_right_row(case, goal, row), oracle.is_right_by_runs(case, goal, row))

    def test_many_spreads(self):
        case = Case(sorting(), [0, 1, 2])
        for goal in (("in", []), ("in", [0])):
            listed = closed_rows(case, ("in", []))
            self.assertIs(judge_rows(case, ("in", []), listed), True)
            self.assertGreater(len(listed), 300)
            for ask in (least_row, closed_rows):
                self.assertLess(steps_of(ask, case, goal)[1], 2000 * len(listed))
            self.assertLess(steps_of(judge_rows, case, goal, listed)[1], 2000 * len(listed))
        self.check(Case(mixing(), [0, 1, 2]), ("first",), None)
        self.assertEqual(len(closed_rows(Case(mixing(), [0, 1, 2]), ("first",))), 125)

    def test_wrong_goals(self):
        for ask in (least_row, closed_rows):
            assert_goal_errors(self, ask)

    def test_arguments(self):
        for case in (Case(small(), [0, 1, 2]), Case(small(), [0, 1, 2], lamps=[])):
            for ask in (least_row, closed_rows):
                assert_by_name(self, ask, ("case", case), ("goal", ("first",)))
                assert_keeps_arguments(self, lambda goal: ask(case, goal), ("group", [[0], [1], [2]]))
                assert_keeps_arguments(self, lambda goal: ask(case, goal), ("in", [0]))
                assert_fresh(self, lambda: ask(case, ("first",)))
                assert_fresh(self, lambda: ask(case, ("in", [0, 1, 2])))

    def test_what_was_asked_before_changes_nothing(self):
        case = Case(sorting(), [0, 1, 2])
        goals = [("now",), ("first",), ("in", [0]), ("in", []), ("group", [[0, 1], [2]])]
        before = [[ask(case, goal) for ask in (least_row, closed_rows)] for goal in goals]
        for goal in goals:
            least_row(case.with_lamps([]), goal)
            closed_rows(case.with_buttons(["turn"]), goal)
        self.assertEqual([[ask(case, goal) for ask in (least_row, closed_rows)] for goal in goals[::-1]], before[::-1])


class ClosedTest(unittest.TestCase):
    LISTED = [
        [[(0, 0), (1, 1), (2, 2)]], [[(0, 1), (1, 2), (2, 2)]], [[(0, 2), (1, 2), (2, 2)]],
    ]
    PARTED = [[[(0, 0), (1, 1), (2, 2)]], [[(0, 1), (1, 2)], [(2, 2)]], [[(0, 2)], [(1, 2)], [(2, 2)]]]

    def setUp(self):
        self.case = Case(small(), [0, 1, 2], lamps=[])
        self.lit = Case(small(), [0, 1, 2])

    def check(self, told, right, case=None, goal=("first",)):
        case = case or self.case
        self.assertIs(oracle.is_closed_spreads(case, goal, told), right, told)
        self.assertIs(judge_rows(case, goal, told), right, told)

    def test_any_order(self):
        for places in ((0, 1, 2), (0, 2, 1), (1, 0, 2), (1, 2, 0), (2, 0, 1), (2, 1, 0)):
            self.check([self.LISTED[place] for place in places], True)
            self.check([self.PARTED[place] for place in places], True, case=self.lit, goal=("in", [0]))

    def test_without_the_spread_of_the_empty_row(self):
        self.check([], False)
        self.check(self.LISTED[1:], False)
        self.check(self.LISTED[2:], False)
        self.check(self.PARTED[1:], False, case=self.lit, goal=("in", [0]))
        self.check([[[(0, 0)], [(1, 1)], [(2, 2)]]], False, case=self.case.with_buttons([]), goal=("in", []))
        self.check([[[(0, 0), (1, 1), (2, 2)]]], True, case=self.case.with_buttons([]), goal=("in", []))

    def test_an_entry_twice(self):
        for place in range(3):
            self.check(self.LISTED + [copy.deepcopy(self.LISTED[place])], False)
            self.check([self.LISTED[place]] + self.LISTED, False)
        self.check(self.LISTED * 2, False)

    def test_an_entry_that_meets_the_goal(self):
        self.check(self.PARTED, False, case=self.lit, goal=("first",))
        self.check(self.PARTED, False, case=self.lit, goal=("now",))
        self.check(self.PARTED, False, case=self.lit, goal=("group", [[0, 1], [2]]))
        self.check(self.PARTED, False, case=self.lit, goal=("in", [2]))
        self.check(self.PARTED, True, case=self.lit, goal=("in", [1]))
        self.check(self.LISTED, False, goal=("now",))
        self.check(self.LISTED, True, goal=("group", [[0], [1, 2]]))
        self.check(self.LISTED + [[[(0, 2)], [(1, 2)], [(2, 2)]]], False)
        # One belief that meets the goal is not all of them.
        self.check(self.LISTED + [[[(0, 2)], [(1, 2), (2, 2)]]], True)
        self.check(self.LISTED + [[[(0, 2), (1, 2)], [(2, 2)]]], True)

    def test_an_entry_that_is_no_spread(self):
        for entry in (
                [], [[]], [[], [(0, 2), (1, 2), (2, 2)]], [[(0, 2), (1, 2)]], [[(0, 2)], [(1, 2)]],
                [[(2, 2)], [(0, 2), (1, 2)]], [[(1, 2), (2, 2)], [(0, 2)]], [[(1, 2), (0, 2)], [(2, 2)]],
                [[(0, 2), (2, 2), (1, 2)]], [[(0, 2), (1, 2)], [(0, 2), (2, 2)]], [[(0, 2), (1, 2)], [(1, 2), (2, 2)]],
                [[(0, 2), (1, 2), (2, 2)], [(2, 2)]], [[(0, 1), (0, 2), (1, 2)], [(2, 2)]],
                [[(0, 2), (1, 2), (2, 2)], [(3, 2)]], [[(0, 2), (1, 2), (2, 3)]], [[(0, -1), (1, 2), (2, 2)]],
                [[(-1, 2)], [(0, 2), (1, 2), (2, 2)]], [[(0, 2), (1, 2), (2, 10 ** 59)]], [[(0, 2), (1, 2), (10 ** 59, 2)]],
                [[(0, 2), (1, 2)], [(0, 2), (1, 2)], [(2, 2)]], [[(0, 2), (1, 2), (2, 2)]] * 2, [[(2, 2)], [(0, 2)]]):
            self.check(self.LISTED + [entry], False)
            self.check([entry] + self.LISTED, False)
            self.check([entry], False)
            self.check([entry] + self.LISTED[:2], False, goal=("in", []))
        fewer = Case(small(), [0, 2], lamps=[])
        listed = [[[(0, 0), (2, 2)]], [[(0, 1), (2, 2)]], [[(0, 2), (2, 2)]]]
        self.check(listed, True, case=fewer)
        self.check(listed + [[[(0, 2), (1, 2), (2, 2)]]], False, case=fewer)
        self.check(listed + [[[(0, 2)]]], False, case=fewer)

    def test_an_entry_that_does_not_ascend(self):
        ascending = [[(0, 2), (1, 2)], [(2, 2)]]
        self.check(self.LISTED + [ascending], True)
        self.check(self.LISTED + [ascending, ascending[::-1]], False)
        self.check(self.LISTED + [ascending, [[(1, 2), (0, 2)], [(2, 2)]]], False)
        still = self.case.with_buttons([])
        self.check([self.LISTED[0], ascending], True, case=still)
        self.check([self.LISTED[0], ascending[::-1]], False, case=still)

    def test_a_button_that_leads_out_of_the_list(self):
        self.check(self.LISTED[:1], False)
        self.check(self.LISTED[:2], False)
        self.check([self.LISTED[0], self.LISTED[2]], False)
        self.check(self.PARTED[:2], False, case=self.lit, goal=("in", [0]))
        self.check(self.LISTED, False, case=self.lit, goal=("in", [0]))
        self.check(self.LISTED[:1], True, case=self.case.with_buttons(["turn"]))
        self.check(self.LISTED[:1], True, case=self.lit.with_buttons(["turn"]))
        pair = Case(small(), [0, 1])
        self.check([[[(0, 0), (1, 1)]], [[(0, 0)], [(1, 1)]]], True, case=pair.with_buttons(["turn"]), goal=("in", [2]))
        self.check([[[(0, 0), (1, 1)]]], False, case=pair.with_buttons(["turn"]), goal=("in", [2]))
        # The spread after the press needs all its answers in one spread, and both its beliefs told apart.
        self.check([[[(0, 0), (1, 1)]], [[(0, 1)], [(1, 0)]]], False, case=pair.with_buttons(["turn"]), goal=("in", [2]))

    def test_a_press_that_is_harmful_at_one_of_the_beliefs_leads_nowhere(self):
        case = Case(numbered(), [0, 1, 2], lamps=["twos"], buttons=["high", "dark"])
        listed = [[[(0, 0), (1, 1), (2, 2)]], [[(0, 0), (1, 1)], [(2, 2)]]]
        self.check(listed, True, case=case, goal=("now",))
        self.check(listed[:1], False, case=case, goal=("now",))
        pair = Case(numbered(), [0, 1], lamps=["twos"], buttons=["high", "dark"])
        self.check([[[(0, 0), (1, 1)]]], False, case=pair, goal=("first",))
        self.check([[[(0, 0), (1, 1)]], [[(0, 0), (1, 0)]]], True, case=pair, goal=("first",))

    def test_an_invalid_goal_ahead_of_all(self):
        for told in ([], [[]], [[[]]], [[[(0, 0), (2, 2), (3, 3)]]], [[[(9, 9)]]]):
            assert_goal_errors(self, judge_rows, told)

    def test_arguments(self):
        assert_by_name(self, judge_rows, ("case", self.case), ("goal", ("first",)), ("told", self.LISTED))
        for told in (copy.deepcopy(self.LISTED), [], [[]], [[[]]], [[[(0, 0)]]]):
            assert_keeps_arguments(
                self, lambda goal, told: judge_rows(self.case, goal, told), ("group", [[0], [1, 2]]), told)

    def test_changed_lists(self):
        rng = random.Random(15)
        found = {True: 0, False: 0}
        for case in oracle.random_cases(15, 80, 4, 3):
            for goal in oracle.goals_of(case, rng):
                listed = closed_rows(case, goal)
                for _ in range(6 if listed else 0):
                    told = copy.deepcopy(listed)
                    rng.shuffle(told)
                    self.change(rng, told)
                    right = oracle.is_closed_spreads(case, goal, told)
                    found[right] += 1
                    self.assertIs(judge_rows(case, goal, told), right, (goal, told))
        self.assertGreater(min(found.values()), 100)

    def change(self, rng, told):
        kind = rng.randrange(6)
        entry = rng.choice(told)
        if kind == 0:
            told.pop()
        elif kind == 1:
            told.append(copy.deepcopy(entry))
        elif kind == 2:
            entry.reverse()
        elif kind == 3:
            told.append([[(first, rng.randrange(4)) for first, _ in belief] for belief in entry])
        elif kind == 4:
            belief = rng.choice(entry)
            belief[rng.randrange(len(belief))] = (rng.randrange(4), rng.randrange(4))

    def test_long_lists(self):
        case = Case(mixing(), [0, 1, 2])
        listed = closed_rows(case, ("first",))
        for place in (0, 60, 124):
            self.assertIs(judge_rows(case, ("first",), listed[:place] + listed[place + 1:]), False)
        self.assertIs(judge_rows(case, ("first",), listed[::-1]), True)
        same = [[[(0, 0), (1, 1), (2, 2)]]] * 600
        self.assertIs(judge_rows(case, ("first",), same), False)
        self.assertLess(steps_of(judge_rows, case, ("first",), same)[1], 2000 * 600)
