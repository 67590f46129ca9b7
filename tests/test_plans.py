"""Points [2], [3], [8] and [10]: the least plans, and the closed lists where there is none."""

import random
import unittest

from surepresses import plans
from surepresses.cases import Case
from surepresses.devices import Device
from surepresses.plans import closed, depth, judge_closed, judge_plan, least_depth, least_total, plan, total, total_plan
from surepresses.plans import walk
from tests import oracle
from tests.support import (
    assert_by_name, assert_fresh, assert_goal_errors, assert_keeps_arguments, steps_of,
)
from tests.test_devices import told

ALL = [least_depth, plan, least_total, total_plan, closed]


def small():
    """Return the device of the document's examples."""
    return Device(*told())


def numbered():
    """Return a device whose states 0 to 3 show their number by four lamps at once, or by one after the other."""
    return Device(["both", "low", "high", "dark"], ["ones", "twos"], [
        {"both": (0, []), "low": (0, []), "high": (0, []), "dark": (0, [])},
        {"both": (1, ["ones"]), "low": (1, ["ones"]), "high": (1, []), "dark": (0, [])},
        {"both": (2, ["twos"]), "low": (2, []), "high": (2, ["twos"])},
        {"both": (3, ["twos", "ones"]), "low": (3, ["ones"]), "high": (3, ["twos"])}])


def mixing():
    """Return a device without light whose presses lead from four states to each choice of four states."""
    return Device(["turn", "swap", "join", "stay"], ["x", "y", "z"], [
        {"turn": ((state + 1) % 5, []), "swap": ((1, 0, 2, 3, 4)[state], []), "join": (max(state, 1), []),
         "stay": (state, [])} for state in range(5)])


def long_way():
    """Return a case with a goal that takes many presses."""
    device = Device(list("abcd"), ["red"], [
        {"b": (3, []), "c": (2, ["red"]), "d": (1, [])}, {"b": (2, []), "c": (0, []), "d": (3, [])}, {"b": (4, [])},
        {"a": (4, []), "b": (1, []), "d": (2, [])}, {"b": (0, []), "d": (2, [])}])
    return Case(device, [0, 1, 2, 3]), ("group", [[0, 1], [2, 3]])


class DocumentTest(unittest.TestCase):
    def test_examples(self):
        device = Device(["push", "turn"], ["red"], [
            {"push": (1, []), "turn": (0, ["red"])}, {"push": (2, []), "turn": (1, [])}, {"push": (2, ["red"])}])
        case = Case(device, [0, 1, 2])
        told = ("press", "push", [([], ("press", "push", [([], ("end",)), (["red"], ("end",))])), (["red"], ("end",))])
        self.assertEqual(
            [judge_plan(case, ("first",), told), depth(told), least_depth(case, ("now",)),
             least_total(case, ("first",)), total(case, told), walk(case, told, 1),
             judge_plan(case, ("first",), ("end",)), closed(case, ("first",))],
            [True, 2, 2, 5, 5, [("push", []), ("push", ["red"])], False, None])
        blind = case.with_lamps([])
        self.assertEqual(
            [least_depth(blind, ("now",)), plan(blind, ("first",)), judge_closed(blind, ("first",), [
                [(0, 0), (1, 1), (2, 2)], [(0, 1), (1, 2), (2, 2)], [(0, 2), (1, 2), (2, 2)]]),
             judge_closed(blind, ("first",), closed(blind, ("first",))),
             judge_plan(case, ("in", [2]), total_plan(case, ("in", [2])))],
            [2, None, True, True, True])

    def test_functions_are_defined_in_the_file(self):
        for name in (
                "least_depth", "plan", "least_total", "total_plan", "judge_plan", "closed", "judge_closed", "depth",
                "walk", "total"):
            self.assertEqual(getattr(plans, name).__module__, "surepresses.plans")


class GoalTest(unittest.TestCase):
    """Cases small enough to be right at a look."""

    def check(self, case, goal, least, least_sum):
        found = [least_depth(case, goal), least_total(case, goal)]
        self.assertEqual(found, [least, least_sum])
        self.assertEqual([type(number) for number in found], [int, int])
        self.assertEqual(depth(plan(case, goal)), least)
        self.assertEqual(total(case, total_plan(case, goal)), least_sum)
        self.assertIsNone(closed(case, goal))
        for made in (plan(case, goal), total_plan(case, goal)):
            self.assertIs(type(made), tuple)
            self.assertTrue(oracle.is_right(case, goal, made))
            self.assertIs(judge_plan(case, goal, made), True)

    def check_none(self, case, goal, count=None):
        self.assertEqual([ask(case, goal) for ask in (least_depth, plan, least_total, total_plan)], [None] * 4)
        listed = closed(case, goal)
        self.assertTrue(oracle.is_closed(case, goal, listed))
        self.assertIs(judge_closed(case, goal, listed), True)
        self.assertEqual(len(listed), len(listed) if count is None else count)
        for belief in listed:
            self.assertEqual([type(belief), {type(entry) for entry in belief}], [list, {tuple}])

    def test_goals_that_the_start_meets(self):
        case = Case(small(), [1])
        for goal in (("now",), ("first",), ("group", [[1, 0, 5]]), ("in", [1])):
            for met in (case, case.with_buttons([]), case.with_lamps([])):
                self.check(met, goal, 0, 0)
                self.assertEqual([plan(met, goal), total_plan(met, goal)], [("end",), ("end",)])
        case = Case(small(), [0, 1, 2], buttons=[])
        for goal in (("group", [[7], [0, 1, 2]]), ("in", [0, 1, 2]), ("in", [2, 0, 1, 0])):
            self.check(case, goal, 0, 0)

    def test_first(self):
        case = Case(numbered(), [0, 1, 2, 3])
        self.check(case, ("first",), 1, 4)
        self.assertEqual(plan(case, ("first",)), ("press", "both", [
            ([], ("end",)), (["ones"], ("end",)), (["ones", "twos"], ("end",)), (["twos"], ("end",))]))
        self.check(case.with_buttons(["low", "high", "dark"]), ("first",), 2, 8)
        self.check(case.with_buttons(["low", "high"]), ("first",), 2, 8)
        self.check_none(case.with_buttons(["low", "dark"]), ("first",))
        self.check_none(case.with_lamps(["twos"]), ("first",))
        self.check_none(case.with_lamps([]), ("first",), 1)
        self.check(Case(numbered(), [1, 3], lamps=["twos"]), ("first",), 1, 2)

    def test_now(self):
        case = Case(numbered(), [0, 1])
        self.check(case, ("now",), 1, 2)
        self.check(case.with_lamps([]), ("now",), 1, 2)
        self.assertEqual(plan(case.with_lamps([]), ("now",)), ("press", "dark", [([], ("end",))]))
        self.check_none(case.with_lamps([]).with_buttons(["both", "low", "high"]), ("now",), 1)
        self.check(Case(numbered(), [0, 1, 2, 3], lamps=["twos"], buttons=["high", "low"]).with_lamps(None), (
            "now",), 2, 8)
        # Dark is harmful in 2 and 3: first high must tell that it is not one of these.
        self.check(Case(numbered(), [0, 1, 2], lamps=["twos"], buttons=["high", "dark"]), ("now",), 2, 5)

    def test_group(self):
        case = Case(numbered(), [0, 1, 2, 3])
        self.check(case.with_buttons(["low"]), ("group", [[2, 0], [1, 3]]), 1, 4)
        self.check(case.with_lamps(["twos"]), ("group", [[9], [0, 1], [3, 2, 9]]), 1, 4)
        self.check(case.with_lamps(["ones"]), ("group", [[2, 0], [1, 3]]), 1, 4)
        self.check_none(case.with_lamps(["ones"]), ("group", [[0, 1], [2, 3]]))
        self.check_none(case.with_buttons(["low"]), ("group", [[0], [2], [1, 3]]))

    def test_in(self):
        case = Case(numbered(), [0, 1, 2, 3])
        self.check(Case(numbered(), [0, 1]), ("in", [0]), 1, 2)
        self.check(Case(numbered(), [0, 1], lamps=["ones"], buttons=["low", "dark"]), ("in", [0]), 1, 2)
        # Dark is harmful in 2 and 3; low tells 0, with which nothing more is to be done, from 1.
        self.check(Case(numbered(), [0, 1, 3], lamps=["twos"], buttons=["high", "dark"]), ("in", [0, 3]), 2, 5)
        self.check_none(case, ("in", [0]))
        self.check_none(case, ("in", []))
        self.check(case, ("in", [0, 1, 2, 3]), 0, 0)

    def test_harm_everywhere(self):
        device = Device(["a", "b"], ["y"], [{}, {"a": (1, ["y"])}, {"b": (1, [])}])
        for states in ([0, 1], [1, 2], [0, 1, 2]):
            for goal in (("now",), ("first",), ("in", [1]), ("group", [[0, 2], [1]])):
                if (states, goal[0]) != ([0, 2], "group"):
                    self.check_none(Case(device, states), goal, 1)
        self.check(Case(device, [2]), ("in", [1]), 1, 1)

    def test_states_alike(self):
        device = Device(["a"], ["y"], [{"a": (1, ["y"])}, {"a": (0, ["y"])}, {"a": (2, [])}])
        self.check_none(Case(device, [0, 1, 2]), ("first",))
        self.check_none(Case(device, [0, 1, 2]), ("now",))
        self.check(Case(device, [0, 1, 2]), ("group", [[0, 1], [2]]), 1, 3)
        self.check(Case(device, [1, 2]), ("first",), 1, 2)

    def test_without_buttons_and_lamps(self):
        case = Case(Device([], [], [{}, {}]), [0, 1])
        self.check_none(case, ("first",), 1)
        self.assertEqual(closed(case, ("first",)), [[(0, 0), (1, 1)]])
        self.check(case, ("in", [1, 0]), 0, 0)

    def test_a_least_total_that_is_deeper_than_the_least_depth(self):
        device = Device(["go", "by"], ["on"], [
            {"go": (0, []), "by": (1, [])}, {"go": (0, []), "by": (0, [])}, {"go": (0, []), "by": (0, [])},
            {"go": (3, ["on"]), "by": (1, [])}])
        case = Case(device, [0, 1, 2, 3])
        self.check(case, ("in", [0]), 2, 6)
        self.assertEqual(plan(case, ("in", [0])), ("press", "by", [([], ("press", "go", [([], ("end",))]))]))
        self.assertEqual(total(case, plan(case, ("in", [0]))), 8)
        self.assertEqual(total_plan(case, ("in", [0])), ("press", "go", [
            ([], ("end",)), (["on"], ("press", "by", [([], ("press", "go", [([], ("end",))]))]))]))
        self.assertEqual(depth(total_plan(case, ("in", [0]))), 3)

    def test_many_presses(self):
        case, goal = long_way()
        table = oracle.Table(case)
        self.assertEqual(least_depth(case, goal), 29)
        self.check(case, goal, 29, table.least_total(goal))
        blind = Device(list("abcd"), [], [
            {"b": (0, []), "c": (4, [])}, {"a": (4, []), "c": (2, []), "d": (4, [])},
            {"b": (2, []), "c": (3, []), "d": (4, [])}, {"c": (1, []), "d": (3, [])},
            {"b": (3, []), "c": (0, []), "d": (0, [])}])
        self.check(Case(blind, [0, 1, 2, 3]), ("now",), 21, 84)

    def test_many_beliefs(self):
        case = Case(mixing(), [0, 1, 2, 3])
        self.check_none(case, ("first",), 625)
        self.check_none(case, ("in", []))
        self.check_none(case, ("group", [[0], [1, 2, 3]]), 625)
        found = oracle.Table(case).least_depth(("in", [2]))
        self.check(case, ("in", [2]), found, 4 * found)


class OtherWayTest(unittest.TestCase):
    """All answers against those that are found in another way."""

    def check(self, cases, seed):
        rng = random.Random(seed)
        seen = {}
        for case in cases:
            table = oracle.Table(case)
            for goal in oracle.goals_of(case, rng):
                found = self.check_goal(case, goal, table)
                seen.setdefault((goal[0], found), []).append(goal)
        for kind in ("now", "first", "group", "in"):
            for found in ("met", "plan", "none"):
                if (kind, found) not in (("now", "met"), ("first", "met")):
                    self.assertGreater(len(seen.get((kind, found), [])), 0, (kind, found))
        return seen

    def check_goal(self, case, goal, table):
        least = table.least_depth(goal)
        self.assertEqual(least_depth(case, goal), least)
        self.assertEqual(least_total(case, goal), table.least_total(goal))
        if least is None:
            self.assertEqual([plan(case, goal), total_plan(case, goal)], [None, None])
            self.assertTrue(oracle.is_closed(case, goal, closed(case, goal)))
            self.assertIs(judge_closed(case, goal, closed(case, goal)), True)
            return "none"
        self.assertIsNone(closed(case, goal))
        made = [plan(case, goal), total_plan(case, goal)]
        for one in made:
            self.assertTrue(oracle.is_right(case, goal, one))
            self.assertIs(judge_plan(case, goal, one), True)
        self.assertEqual(oracle.depth_of(made[0]), least)
        self.assertEqual(oracle.total_of(case, made[1]), table.least_total(goal))
        return "plan" if least else "met"

    def test_three_states(self):
        self.check(oracle.random_cases(3, 150, 3, 3), 30)

    def test_two_of_four_states(self):
        self.check(oracle.random_cases(4, 100, 4, 2), 40)

    def test_four_states(self):
        self.check(oracle.random_cases(5, 25, 4, 4), 50)

    def test_four_of_five_states(self):
        for case in oracle.random_cases(6, 6, 5, 4):
            table = oracle.Table(case)
            for goal in oracle.goals_of(case, random.Random(60)):
                self.check_goal(case, goal, table)

    def test_totals_that_need_more_depth(self):
        devices = [
            ([0, 1, 2], ["0 y", "1"], ["0", "3"], ["2", "3"], ["1", "1"]),
            ([0, 1, 2, 3], ["2", "3"], ["0", "2"], ["3 y", "1"], ["3", "2 y"]),
            ([0, 1, 2, 3], ["2", "3 y"], ["1 y", "3 y"], ["1", "2"], ["0 y", "0"]),
            ([0, 1, 2], ["2", "0 y"], ["3", "3 y"], ["0 y", "1 y"], ["1", "2"])]
        for states, *steps in devices:
            device = Device(["d", "b"], ["y"], [
                {button: (int(step[0]), step[2:].split()) for button, step in zip("db", row)} for row in steps])
            case, goal = Case(device, states), ("in", [0])
            totals = oracle.Table(case).totals(goal)
            least = least_depth(case, goal)
            self.assertGreater(totals[least], totals[-1])
            self.assertEqual(least_total(case, goal), totals[-1])
            self.assertEqual(total(case, total_plan(case, goal)), totals[-1])
            self.assertGreater(depth(total_plan(case, goal)), least)
            self.assertEqual(depth(plan(case, goal)), least)


class RuleTest(unittest.TestCase):
    def test_wrong_goals(self):
        for ask in ALL:
            assert_goal_errors(self, ask)

    def test_arguments_by_name(self):
        for ask in ALL:
            assert_by_name(self, ask, ("case", Case(small(), [0, 1, 2])), ("goal", ("first",)))

    def test_arguments_stay_as_they_were(self):
        for case in (Case(small(), [0, 1, 2]), Case(small(), [0, 1, 2], lamps=[])):
            for ask in ALL:
                assert_keeps_arguments(self, lambda goal: ask(case, goal), ("group", [[0], [1, 2, 9]]))
                assert_keeps_arguments(self, lambda goal: ask(case, goal), ("in", [2]))

    def test_answers_are_new(self):
        for case in (Case(small(), [0, 1, 2]), Case(small(), [0, 1, 2], lamps=[]), Case(numbered(), [0, 1, 2, 3])):
            for goal in (("now",), ("first",), ("in", [2, 1]), ("in", []), ("group", [[0, 3], [1], [2]])):
                for ask in ALL:
                    assert_fresh(self, lambda: ask(case, goal))
        case, goal = long_way()
        assert_fresh(self, lambda: [ask(case, goal) for ask in ALL])

    def test_a_changed_answer_changes_no_answer_about_other_cases(self):
        case, other = Case(small(), [0, 1, 2], lamps=[]), Case(small(), [0, 1], lamps=[])
        before = [closed(other, ("first",)), plan(other, ("now",)), case.start]
        closed(case, ("first",))[0].clear()
        plan(case, ("now",))[2][0][0].append("x")
        plan(case, ("now",))[2].clear()
        self.assertEqual([closed(other, ("first",)), plan(other, ("now",)), case.start], before)

    def test_what_was_asked_before_changes_nothing(self):
        case = Case(numbered(), [0, 1, 2, 3])
        goals = [("now",), ("first",), ("in", [0]), ("in", [0, 1, 2]), ("group", [[0, 1], [2, 3]])]
        before = [ask(case, goal) for goal in goals for ask in ALL]
        for lamps in ([], ["ones"], ["twos"]):
            [ask(case.with_lamps(lamps), goal) for goal in goals for ask in ALL]
        self.assertEqual([ask(case, goal) for goal in reversed(goals) for ask in ALL], [
            answer for place in (4, 3, 2, 1, 0) for answer in before[place * 5:place * 5 + 5]])

    def test_steps(self):
        asked = [
            (Case(mixing(), [0, 1, 2, 3]), ("first",), 625), (Case(mixing(), [0, 1, 2, 3]), ("in", []), 625),
            (*long_way(), 200), (Case(mixing(), [0, 1, 2, 3]), ("group", [[5] * 20] * 19 + [[0, 1, 2, 3]]), 1),
            (Case(mixing(), [0, 1, 2, 3]), ("group", [[5] * 20] * 18 + [[0, 1], [2, 3]]), 625)]
        for case, goal, count in asked:
            for ask in ALL:
                self.assertLess(steps_of(ask, case, goal)[1], 2000 * count)
