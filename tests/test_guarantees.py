"""Point [10]: what holds of plans, rows and closed lists together."""

import random
import unittest

from surepresses.cases import Case
from surepresses.least import least_buttons, least_lamps
from surepresses.plans import closed, depth, judge_closed, judge_plan, least_depth, plan, total_plan
from surepresses.rows import closed_rows, is_right_row, judge_rows, least_row
from tests import oracle


def asked(seed, count, states, possible):
    """Return (case, goal) for random cases and goals of each kind."""
    rng = random.Random(seed)
    return [
        (case, goal) for case in oracle.random_cases(seed, count, states, possible)
        for goal in oracle.goals_of(case, rng)]


def in_a_row(told):
    """Return the presses of a plan that has one branch at each."""
    row = []
    while told != ("end",):
        row.append(told[1])
        (_, told), = told[2]
    return row


class GuaranteeTest(unittest.TestCase):
    def setUp(self):
        self.asked = asked(21, 60, 4, 3) + asked(22, 40, 3, 3) + asked(23, 20, 5, 2)

    def test_either_a_plan_or_a_closed_list(self):
        for case, goal in self.asked:
            made, listed = plan(case, goal), closed(case, goal)
            self.assertEqual([made is None, total_plan(case, goal) is None], [listed is not None] * 2)
            self.assertIs(judge_plan(case, goal, made) if listed is None else judge_closed(case, goal, listed), True)

    def test_either_a_row_or_a_closed_list(self):
        for case, goal in self.asked:
            row, listed = least_row(case, goal), closed_rows(case, goal)
            self.assertEqual(row is None, listed is not None)
            self.assertIs(is_right_row(case, goal, row) if listed is None else judge_rows(case, goal, listed), True)

    def test_a_right_row_gives_a_plan(self):
        count = shorter = 0
        for case, goal in self.asked:
            row = least_row(case, goal)
            if row is not None:
                count += 1
                self.assertLessEqual(least_depth(case, goal), len(row))
                shorter += least_depth(case, goal) < len(row)
        self.assertGreater(count, 100)
        self.assertGreater(shorter, 0)

    def test_a_plan_without_a_row(self):
        self.assertTrue([
            goal for case, goal in self.asked if least_depth(case, goal) is not None and least_row(case, goal) is None])

    def test_without_watched_lamps(self):
        found = {True: 0, False: 0}
        for case, goal in self.asked:
            blind = case.with_lamps([])
            least, row, made = least_depth(blind, goal), least_row(blind, goal), plan(blind, goal)
            self.assertEqual(least, None if row is None else len(row))
            found[row is None] += 1
            if row is not None:
                self.assertIs(is_right_row(blind, goal, in_a_row(made)), True)
                self.assertIs(is_right_row(blind, goal, in_a_row(total_plan(blind, goal))), True)
                self.assertEqual(len(in_a_row(made)), depth(made))
                told = ("end",)
                for button in row[::-1]:
                    told = ("press", button, [([], told)])
                self.assertIs(judge_plan(blind, goal, told), True)
        self.assertGreater(min(found.values()), 50)

    def test_more_lamps_and_buttons_keep_a_plan(self):
        for case, goal in self.asked:
            if least_depth(case, goal) is not None:
                self.assertLessEqual(least_depth(case.with_lamps(None), goal), least_depth(case, goal))
                self.assertLessEqual(least_depth(case.with_buttons(None), goal), least_depth(case, goal))

    def test_least_sets_with_more(self):
        for case, goal in self.asked[::3]:
            for lamps in least_lamps(case, goal):
                for more in case.device.lamps:
                    self.assertIsNone(closed(case.with_lamps(lamps + [more]), goal))
            for buttons in least_buttons(case, goal):
                for more in case.device.buttons:
                    self.assertIsNone(closed(case.with_buttons(buttons + [more]), goal))
            self.assertEqual(least_lamps(case, goal) == [], least_depth(case.with_lamps(None), goal) is None)
            self.assertEqual(least_buttons(case, goal) == [], least_depth(case.with_buttons(None), goal) is None)

    def test_steps_of_a_plan_lead_to_plans(self):
        # The plans behind the first press are right for the case that begins where the press leads.
        for case, goal in self.asked:
            made = plan(case, goal)
            if made not in (None, ("end",)) and goal[0] in ("now", "in"):
                for (_, after), (_, inner) in zip(case.next_beliefs(case.start, made[1]), made[2]):
                    states = [now for _, now in after]
                    later = Case(case.device, states, lamps=case.lamps, buttons=case.buttons)
                    self.assertIs(judge_plan(later, goal, inner), True)
