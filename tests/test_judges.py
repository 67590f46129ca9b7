"""Points [6], [7], [8] and [10]: judge_plan and judge_closed."""

import copy
import random
import unittest

from surepresses.cases import Case
from surepresses.plans import closed, judge_closed, judge_plan, plan, total_plan
from tests import oracle
from tests.support import (
    assert_by_name, assert_goal_errors, assert_keeps_arguments, steps_of,
)
from tests.test_plans import mixing, numbered, small

END = ("end",)


def press(button, *branches):
    """Return a plan that begins with a press; each branch is a string of lamps and a plan."""
    return ("press", button, [(lamps.split(), inner) for lamps, inner in branches])


class PlanTest(unittest.TestCase):
    def check(self, case, goal, right, wrong):
        for told in right:
            self.assertTrue(oracle.is_right(case, goal, told), told)
            self.assertIs(judge_plan(case, goal, told), True, told)
        for told in wrong:
            self.assertIs(judge_plan(case, goal, told), False, told)
            self.assertFalse(oracle.is_right(case, goal, told), told)

    def test_ends(self):
        case = Case(small(), [0, 1, 2])
        for goal in (("now",), ("first",), ("in", [0, 1]), ("in", []), ("group", [[0, 1], [2]])):
            self.check(case, goal, [], [END])
        for goal in (("in", [2, 1, 0]), ("group", [[2, 4, 0, 1]])):
            self.check(case, goal, [END], [])
        for goal in (("now",), ("first",), ("in", [1]), ("group", [[0, 1], [2]])):
            self.check(Case(small(), [1]), goal, [END], [])

    def test_a_belief_at_an_end_that_does_not_meet_the_goal(self):
        case = Case(small(), [0, 1, 2])
        both = press("push", ("", press("push", ("", END), ("red", END))), ("red", END))
        self.check(case, ("first",), [both], [press("push", ("", END), ("red", END))])
        self.check(case, ("now",), [both], [press("push", ("", END), ("red", END))])
        self.check(case, ("group", [[0, 1], [2]]), [both, press("push", ("", END), ("red", END))], [])
        self.check(case, ("in", [1, 2]), [both, press("push", ("", END), ("red", END))], [])
        self.check(case, ("in", [2]), [both], [press("push", ("", END), ("red", END))])
        self.check(case, ("in", [1]), [], [both, press("push", ("", END), ("red", END))])

    def test_presses_that_may_not_be(self):
        case = Case(small(), [0, 1])
        turned = press("turn", ("", END), ("red", END))
        self.check(case, ("first",), [turned], [
            press(button, ("", END), ("red", END)) for button in ("pull", "", "red", "TURN", "turn ", "end", "press")])
        self.check(case.with_buttons(["turn"]), ("first",), [turned], [
            press("push", ("", turned)), press("push", ("", END))])
        self.check(case.with_buttons(["push"]), ("first",), [press("push", ("", press("push", ("", END), ("red", END))))], [
            turned])
        # Turn is harmful in state 2, in which the device may be at the beginning, or is for some after a push.
        self.check(Case(small(), [0, 1, 2]), ("first",), [], [
            turned, press("turn", ("", press("push", ("", END), ("red", END))), ("red", END)),
            press("push", ("", press("turn", ("", END), ("red", END))), ("red", END))])
        self.check(case, ("first",), [], [press("push", ("", press("turn", ("", END), ("red", END))))])

    def test_a_press_that_is_safe_where_it_is_done(self):
        case = Case(numbered(), [0, 1, 2, 3])
        split = press("high", ("", press("dark", ("", END))), ("twos", press("low", ("", END), ("ones", END))))
        self.check(case, ("now",), [split], [press("dark", ("", END)), press(
            "high", ("", press("dark", ("", END))), ("twos", press("dark", ("", END))))])

    def test_branches(self):
        case = Case(numbered(), [0, 1, 2, 3])
        every = [("", END), ("ones", END), ("ones twos", END), ("twos", END)]
        wrong = [press("both")]
        for place in range(4):
            wrong.append(press("both", *every[:place], *every[place + 1:]))
            wrong.append(press("both", *every[:place + 1], *every[place:]))
            for other in range(place):
                swapped = list(every)
                swapped[place], swapped[other] = swapped[other], swapped[place]
                wrong.append(press("both", *swapped))
        for lamps in ("twos ones", "ones ones twos", "ones twos twos", "one two", "ones", "ones twos both", ""):
            wrong.append(press("both", *every[:2], (lamps, END), *every[3:]))
            wrong.append(press("both", *every, (lamps, END)))
        wrong.append(press("both", *reversed(every)))
        wrong.append(press("both", *every, ("zzz", END)))
        self.check(case, ("first",), [press("both", *every)], wrong)

    def test_an_answer_that_is_possible_elsewhere_only(self):
        case = Case(numbered(), [0, 1])
        right = press("low", ("", END), ("ones", END))
        self.check(case, ("first",), [right, press("high", ("", right))], [
            press("low", ("", END), ("ones", END), ("twos", END)), press("high", ("", right), ("twos", END)),
            press("high", ("twos", right)), press("low", ("", END)), press("low", ("ones", END))])

    def test_watched_lamps_only(self):
        case = Case(numbered(), [0, 1, 2, 3], lamps=["twos"])
        self.check(case, ("group", [[0, 1], [2, 3]]), [press("both", ("", END), ("twos", END)), press(
            "low", ("", press("high", ("", END), ("twos", END))))], [
            press("both", ("", END), ("ones", END), ("ones twos", END), ("twos", END)),
            press("both", ("", END), ("ones twos", END))])
        self.check(case.with_lamps([]), ("in", [1, 2, 3, 0]), [press("both", ("", END))], [
            press("both", ("", END), ("twos", END))])

    def test_presses_behind_a_met_goal(self):
        case = Case(numbered(), [1])
        stay = press("low", ("ones", END))
        self.check(case, ("first",), [END, stay, press("low", ("ones", stay)), press("dark", ("", END))], [
            press("low"), press("low", ("", END)), press("low", ("ones", press("none", ("", END)))),
            press("low", ("ones", END), ("", END))])
        self.check(case, ("in", [1]), [stay], [press("dark", ("", END)), press("low", ("ones", press("dark", ("", END))))])
        self.check(Case(numbered(), [2]), ("now",), [press("both", ("twos", END))], [press("dark", ("", END))])

    def test_an_invalid_goal_ahead_of_a_wrong_plan(self):
        for told in (END, press("none"), press("a", ("", END), ("y", END))):
            assert_goal_errors(self, judge_plan, told)

    def test_arguments(self):
        told = press("push", ("", press("push", ("", END), ("red", END))), ("red", END))
        case = Case(small(), [0, 1, 2])
        assert_by_name(self, judge_plan, ("case", case), ("goal", ("first",)), ("told", told))
        assert_keeps_arguments(self, lambda goal, told: judge_plan(case, goal, told), ("group", [[0], [1, 2]]), told)
        assert_keeps_arguments(self, lambda goal, told: judge_plan(case, goal, told), ("in", [1]), press("push"))

    def test_changed_plans(self):
        rng = random.Random(8)
        found = {True: 0, False: 0}
        for case in oracle.random_cases(8, 60, 4, 3):
            for goal in oracle.goals_of(case, rng):
                for made in (plan(case, goal), total_plan(case, goal)):
                    for _ in range(4 if made else 0):
                        told = changed(rng, case, made)
                        right = oracle.is_right(case, goal, told)
                        found[right] += 1
                        self.assertIs(judge_plan(case, goal, told), right, (goal, told))
        self.assertGreater(min(found.values()), 100)

    def test_long_plans(self):
        case = Case(numbered(), [0, 1, 2, 3])
        ways = []
        for shown in ("", "ones", "ones twos", "twos"):
            way = END
            for _ in range(19):
                way = press("both", (shown, way))
            ways.append((shown, way))
        self.assertIs(judge_plan(case, ("first",), press("both", *ways)), True)
        self.assertIs(judge_plan(case, ("now",), press("both", *ways[:3], ("twos", press("both", ("", END))))), False)
        self.assertLess(steps_of(judge_plan, case, ("first",), press("both", *ways))[1], 2000 * 77)
        many = press("both", *[("", END)] * 200)
        self.assertIs(judge_plan(case, ("first",), many), False)
        deep = END
        for _ in range(100):
            deep = press("low", ("ones", deep))
        self.assertIs(judge_plan(Case(numbered(), [3]), ("first",), deep), True)
        self.assertIs(judge_plan(Case(numbered(), [2]), ("first",), deep), False)


def changed(rng, case, told):
    """Return a plan with one place changed, or with none."""
    told = copy.deepcopy(told)
    if told == END or rng.random() < 0.3:
        kind = rng.randrange(4)
        if kind == 0:
            return END
        if kind == 1 and told != END:
            return ("press", rng.choice(case.device.buttons + ["none"]), told[2])
        if kind == 2 and case.buttons:
            return ("press", rng.choice(case.buttons), [([], told)])
        return told
    place = rng.randrange(len(told[2]))
    answer, inner = told[2][place]
    kind = rng.randrange(8)
    if kind == 0:
        told[2].pop(place)
    elif kind == 1:
        told[2].insert(place, (list(answer), inner))
    elif kind == 2:
        told[2].append(([rng.choice(["x", "y", "z"])], END))
    elif kind == 3:
        rng.shuffle(told[2])
    elif kind == 4:
        answer.append("y")
    else:
        told[2][place] = (answer, changed(rng, case, inner))
    return told


class ClosedTest(unittest.TestCase):
    LISTED = [[(0, 0), (1, 1), (2, 2)], [(0, 1), (1, 2), (2, 2)], [(0, 2), (1, 2), (2, 2)]]

    def setUp(self):
        self.case = Case(small(), [0, 1, 2], lamps=[])

    def check(self, told, right, case=None, goal=("first",)):
        case = case or self.case
        self.assertIs(oracle.is_closed(case, goal, told), right, told)
        self.assertIs(judge_closed(case, goal, told), right, told)

    def test_any_order(self):
        one, two, three = self.LISTED
        for told in ([one, two, three], [one, three, two], [two, one, three], [three, two, one], [three, one, two]):
            self.check(told, True)

    def test_without_the_start_belief(self):
        one, two, three = self.LISTED
        self.check([], False)
        self.check([two, three], False)
        self.check([three], False)
        blind = Case(small(), [0, 1, 2], buttons=[])
        self.check([one], True, case=blind)
        self.check([two], False, case=blind)

    def test_an_entry_twice(self):
        one, two, three = self.LISTED
        for told in ([one, one, two, three], [one, two, three, one], [one, two, three, list(three)], self.LISTED * 2):
            self.check(told, False)

    def test_an_entry_that_meets_the_goal(self):
        for entry in ([(0, 0)], [(2, 1)]):
            self.check(self.LISTED + [entry], False)
        self.check(self.LISTED, False, goal=("now",))
        self.check(self.LISTED, False, goal=("in", [2]))
        self.check(self.LISTED, False, goal=("in", [0, 1, 2]))
        self.check(self.LISTED, True, goal=("in", [0, 1]))
        self.check(self.LISTED, True, goal=("group", [[0, 1], [2]]))
        self.check(self.LISTED, False, goal=("group", [[0, 1, 2]]))

    def test_more_than_needed(self):
        stuck = [[(0, 2), (1, 2)], [(0, 2), (2, 2)], [(1, 0), (2, 0)]]
        self.check(self.LISTED + stuck[:1], True)
        self.check(self.LISTED + stuck[:2], True)
        # From the last one push leads to state 1 twice, and that to state 2 twice.
        self.check(self.LISTED + stuck, False)
        self.check(self.LISTED + stuck + [[(1, 1), (2, 1)], [(1, 2), (2, 2)]], True)

    def test_an_entry_that_is_no_belief(self):
        for entry in (
                [], [(1, 2), (0, 2)], [(2, 2), (1, 2), (0, 2)], [(0, 1), (0, 2)], [(0, 2), (0, 2)],
                [(0, 2), (1, 2), (1, 2)], [(0, 2), (3, 2)], [(-1, 2), (0, 2)], [(0, 3), (1, 3)], [(0, 2), (1, -1)],
                [(0, 2), (1, 10 ** 59)], [(10 ** 59, 2)], [(0, 2), (-10 ** 59, 2)]):
            self.check(self.LISTED + [entry], False)
            self.check([entry] + self.LISTED, False)
            for goal in (("now",), ("in", [0]), ("in", []), ("group", [[0], [1], [2]])):
                self.check([entry], False, goal=goal)
        fewer = Case(small(), [0, 2], lamps=[])
        self.check([[(0, 0), (2, 2)], [(0, 1), (2, 2)], [(0, 2), (2, 2)]], True, case=fewer)
        self.check([[(0, 0), (2, 2)], [(0, 1), (2, 2)], [(0, 2), (2, 2)], [(0, 2), (1, 2)]], False, case=fewer)

    def test_a_button_that_leads_out_of_the_list(self):
        one, two, three = self.LISTED
        self.check([one], False)
        self.check([one, two], False)
        self.check([one, three], False)
        # Turn is safe, and stays, where state 2 is not possible; it tells states apart if red is watched.
        self.check([[(0, 0), (1, 1)]], True, case=Case(small(), [0, 1], lamps=[], buttons=["turn"]))
        self.check([[(0, 0), (1, 1)]], False, case=Case(small(), [0, 1], buttons=["turn"]))
        self.check([[(0, 0), (1, 1)]], False, case=Case(small(), [0, 1], lamps=[]))
        self.check([[(0, 0), (1, 1)], [(0, 1), (1, 2)]], False, case=Case(small(), [0, 1], lamps=[]))
        self.check([[(0, 0), (1, 1)], [(0, 1), (1, 2)], [(0, 2), (1, 2)]], True, case=Case(small(), [0, 1], lamps=[]))

    def test_one_answer_of_each_button_is_enough(self):
        case = Case(numbered(), [0, 1, 2, 3], buttons=["low", "dark"])
        start, even, odd = [(0, 0), (1, 1), (2, 2), (3, 3)], [(0, 0), (2, 2)], [(1, 1), (3, 3)]
        for told, right in (
                ([start, even], True), ([start, odd], True), ([odd, start, even], True), ([start], False),
                ([even, odd], False), ([even], False)):
            self.check(told, right, case=case)
        # Dark is safe at the beliefs of 0 and 1, and leads to the one with state 0 twice.
        case = Case(numbered(), [0, 1], lamps=["twos"])
        self.check([[(0, 0), (1, 1)]], False, case=case)
        self.check([[(0, 0), (1, 1)], [(0, 0), (1, 0)]], True, case=case)
        self.check([[(0, 0), (1, 1)]], True, case=case.with_buttons(["low", "high", "both"]))

    def test_harmful_buttons_lead_nowhere(self):
        case = Case(small(), [0, 1, 2], buttons=["turn"])
        for goal in (("first",), ("now",), ("in", [0]), ("group", [[0, 1], [2]])):
            self.check([[(0, 0), (1, 1), (2, 2)]], True, case=case, goal=goal)

    def test_an_invalid_goal_ahead_of_all(self):
        for told in ([], [[]], [[(0, 0), (2, 2), (3, 3)]], [[(9, 9)]], [[(0, 0)], [(0, 0)]]):
            assert_goal_errors(self, judge_closed, told)

    def test_arguments(self):
        assert_by_name(self, judge_closed, ("case", self.case), ("goal", ("first",)), ("told", self.LISTED))
        for told in (copy.deepcopy(self.LISTED), [], [[]], [[(0, 0)]]):
            assert_keeps_arguments(
                self, lambda goal, told: judge_closed(self.case, goal, told), ("group", [[0], [1, 2]]), told)

    def test_changed_lists(self):
        rng = random.Random(9)
        found = {True: 0, False: 0}
        for case in oracle.random_cases(9, 80, 4, 3):
            for goal in oracle.goals_of(case, rng):
                listed = closed(case, goal)
                for _ in range(6 if listed else 0):
                    told = copy.deepcopy(listed)
                    rng.shuffle(told)
                    kind = rng.randrange(6)
                    if kind == 0:
                        told.pop()
                    elif kind == 1:
                        told = [belief for belief in told if rng.random() < 0.7]
                    elif kind == 2:
                        told.append([(state, rng.randrange(4)) for state in case.states if rng.random() < 0.8])
                    elif kind == 3:
                        told.append(list(rng.choice(told)))
                    elif kind == 4:
                        belief = rng.choice(told)
                        place = rng.randrange(len(belief))
                        belief[place] = (rng.randrange(4), rng.randrange(4))
                    right = oracle.is_closed(case, goal, told)
                    found[right] += 1
                    self.assertIs(judge_closed(case, goal, told), right, (goal, told))
        self.assertGreater(min(found.values()), 100)

    def test_long_lists(self):
        case = Case(mixing(), [0, 1, 2, 3])
        listed = closed(case, ("first",))
        self.assertEqual(len(listed), 625)
        self.assertIs(judge_closed(case, ("first",), listed[::-1]), True)
        self.assertIs(judge_closed(case, ("first",), listed[1:]), False)
        self.assertIs(judge_closed(case, ("first",), listed[:-1]), False)
        self.assertIs(judge_closed(case, ("first",), listed + listed[-1:]), False)
        self.assertLess(steps_of(judge_closed, case, ("first",), listed)[1], 2000 * 625)
        same = [[(0, 0), (1, 1), (2, 2), (3, 3)]] * 600
        self.assertIs(judge_closed(case, ("first",), same), False)
        self.assertLess(steps_of(judge_closed, case, ("first",), same)[1], 2000 * 600)
