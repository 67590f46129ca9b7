"""Points [2], [3] and [8]: depth, walk and total."""

import random
import unittest

from surepresses.cases import Case
from surepresses.errors import InvalidState, WrongPlan
from surepresses.plans import depth, least_depth, plan, total, total_plan, walk
from tests import oracle
from tests.support import assert_by_name, assert_fresh, assert_keeps_arguments, assert_raises, steps_of
from tests.test_judges import END, press
from tests.test_plans import long_way, numbered, small

HUGE = 10 ** 59


def chain(count, button="low", lamps="ones", told=END):
    """Return a plan of so many presses, one behind the other, and another plan behind them."""
    for _ in range(count):
        told = press(button, (lamps, told))
    return told


class DepthTest(unittest.TestCase):
    def check(self, told, wanted):
        found = depth(told)
        self.assertEqual(found, wanted)
        self.assertIs(type(found), int)
        self.assertEqual(oracle.depth_of(told), wanted)

    def test_ends_and_presses(self):
        self.check(END, 0)
        self.check(press("push", ("", END)), 1)
        self.check(press("push", ("", END), ("red", END)), 1)
        self.check(press("a", ("", press("b", ("", press("c", ("x", END)))))), 3)

    def test_ways_of_different_lengths(self):
        one, two, three = chain(1), chain(2), chain(3)
        for branches in ([END, one, three], [three, one, END], [one, three, two], [END, three], [three, END]):
            self.check(press("a", *[("", inner) for inner in branches]), 4)
        self.check(press("a", ("", press("b", ("", END), ("x", one))), ("x", END)), 3)
        self.check(press("a", ("", END), ("x", press("b", ("", one), ("x", END)))), 3)

    def test_a_press_without_branches_counts(self):
        self.check(press("push"), 1)
        self.check(press("push", ("", press("push"))), 2)
        self.check(press("push", ("", END), ("red", press("push", ("", press("turn"))))), 3)
        self.check(press("push", ("", chain(1)), ("red", press("push"))), 2)

    def test_all_branches_count(self):
        self.check(press("low", ("ones", END), ("ones", chain(4))), 5)
        self.check(press("none", ("pink", END), ("", END), ("never", chain(2))), 3)
        self.check(press("low", ("ones ones", chain(4)), ("ones", END)), 5)

    def test_names_that_are_words_of_plans(self):
        self.check(press("end", ("press", END), ("end", press("press", ("", END)))), 2)

    def test_many_presses(self):
        for count in (20, 100, 200):
            self.check(chain(count), count)
        self.check(press("a", *[("", END)] * 199, ("", chain(19))), 20)
        self.check(press("a", *[("", chain(1))] * 200), 2)

    def test_arguments(self):
        assert_by_name(self, depth, ("told", chain(3)))
        assert_keeps_arguments(self, depth, press("push", ("", chain(2)), ("red", press("push"))))


class WalkTest(unittest.TestCase):
    def setUp(self):
        self.case = Case(small(), [0, 1, 2])
        self.told = press("push", ("", press("push", ("", END), ("red", END))), ("red", END))

    def test_from_each_possible_state(self):
        walks = [[("push", []), ("push", [])], [("push", []), ("push", ["red"])], [("push", ["red"])]]
        for state, wanted in enumerate(walks):
            found = walk(self.case, self.told, state)
            self.assertEqual(found, wanted)
            self.assertEqual([type(found), {type(done) for done in found}], [list, {tuple}])
            self.assertEqual(walk(self.case, END, state), [])
        self.assertEqual(total(self.case, self.told), 5)
        self.assertEqual(total(self.case, END), 0)
        self.assertEqual(total(Case(small(), [2]), self.told), 1)
        self.assertEqual(total(Case(small(), [0, 2]), self.told), 3)

    def test_watched_lamps_only(self):
        case = Case(numbered(), [0, 1, 2, 3], lamps=["twos"])
        told = press("low", ("", press("both", ("", END), ("twos", press("both", ("twos", END))))))
        self.assertEqual(walk(case, told, 1), [("low", []), ("both", [])])
        self.assertEqual(walk(case, told, 3), [("low", []), ("both", ["twos"]), ("both", ["twos"])])
        self.assertEqual(total(case, told), 10)
        assert_raises(self, WrongPlan, 1, walk, case.with_lamps(None), told, 1)

    def test_lamps_in_their_order(self):
        case = Case(numbered(), [3])
        self.assertEqual(walk(case, press("both", ("ones twos", END)), 3), [("both", ["ones", "twos"])])
        for lamps in ("twos ones", "ones ones twos", "ones", "twos", "", "ones twos both"):
            assert_raises(self, WrongPlan, 1, walk, case, press("both", (lamps, END)), 3)
            told = press("both", (lamps, chain(1, "dark", "")), ("ones twos", chain(1, "high", "twos")))
            self.assertEqual(walk(case, told, 3), [("both", ["ones", "twos"]), ("high", ["twos"])])

    def test_the_first_of_several_branches(self):
        told = press("low", ("ones", chain(1)), ("ones", chain(2)), ("", END), ("", chain(3)))
        case = Case(numbered(), [0, 1])
        self.assertEqual(walk(case, told, 1), [("low", ["ones"])] * 2)
        self.assertEqual(walk(case, told, 0), [("low", [])])
        self.assertEqual(total(case, told), 3)
        told = press("low", ("", press("low")), ("ones", END), ("ones", press("low")), ("", END))
        assert_raises(self, WrongPlan, 2, walk, case, told, 0)
        assert_raises(self, WrongPlan, 2, total, case, told)
        self.assertEqual(walk(case, told, 1), [("low", ["ones"])])

    def test_branches_in_any_order_and_too_many(self):
        told = press("push", ("red", END), ("pink", chain(2)), ("", press("push", ("red", END), ("", END))))
        self.assertEqual([walk(self.case, told, state) for state in (0, 1, 2)], [
            walk(self.case, self.told, state) for state in (0, 1, 2)])
        self.assertEqual(total(self.case, told), 5)

    def test_states_that_are_not_possible(self):
        case = Case(small(), [0, 2])
        for told in (END, self.told, press("none"), press("push")):
            for state in (1, 3, -1, HUGE, -HUGE):
                assert_raises(self, InvalidState, state, walk, case, told, state)
        self.assertEqual(walk(case, self.told, 2), [("push", ["red"])])

    def test_buttons_that_may_not_be_pressed(self):
        for button in ("pull", "", "red", "PUSH", "end", "~"):
            for state in (0, 1, 2):
                assert_raises(self, WrongPlan, 0, walk, self.case, press(button, ("", END), ("red", END)), state)
            assert_raises(self, WrongPlan, 1, walk, self.case, press("push", ("", press(button, ("", END)))), 0)
            assert_raises(self, WrongPlan, 0, total, self.case, press(button, ("", END)))
        assert_raises(self, WrongPlan, 0, walk, self.case.with_buttons(["turn"]), self.told, 0)
        mixed = press("turn", ("red", press("push", ("", END))), ("", END))
        self.assertEqual(walk(self.case, mixed, 0), [("turn", ["red"]), ("push", [])])
        assert_raises(self, WrongPlan, 1, walk, self.case.with_buttons(["turn"]), mixed, 0)
        self.assertEqual(walk(self.case.with_buttons(["turn"]), mixed, 1), [("turn", [])])

    def test_harm_in_the_state_of_the_device_only(self):
        told = press("push", ("", press("turn", ("", END))), ("red", END))
        self.assertEqual(walk(self.case, told, 0), [("push", []), ("turn", [])])
        assert_raises(self, WrongPlan, 1, walk, self.case, told, 1)
        self.assertEqual(walk(self.case, told, 2), [("push", ["red"])])
        assert_raises(self, WrongPlan, 1, total, self.case, told)
        self.assertEqual(total(Case(small(), [0, 2]), told), 3)
        assert_raises(self, WrongPlan, 0, walk, self.case, press("turn", ("", END), ("red", END)), 2)

    def test_answers_without_a_branch(self):
        assert_raises(self, WrongPlan, 1, walk, self.case, press("push"), 0)
        assert_raises(self, WrongPlan, 1, walk, self.case, press("push", ("", END)), 2)
        assert_raises(self, WrongPlan, 1, walk, self.case, press("push", ("red", END)), 1)
        told = press("push", ("", press("push", ("", press("push", ("", END))))), ("red", press("push", ("", END))))
        for state, presses in ((0, 3), (1, 2), (2, 2)):
            assert_raises(self, WrongPlan, presses, walk, self.case, told, state)

    def test_total_raises_for_the_least_possible_state(self):
        told = press("push", ("", press("push", ("", press("push", ("", END))))), ("red", press("none", ("", END))))
        for states, presses in (([0, 1, 2], 3), ([2, 1, 0], 3), ([1, 2], 2), ([2, 1], 2), ([2], 1), ([2, 0], 3)):
            assert_raises(self, WrongPlan, presses, total, Case(small(), states), told)
        told = press("push", ("", press("push", ("", END))), ("red", press("turn", ("", END))))
        for states, presses in (([0, 1, 2], 2), ([2, 1, 0], 2), ([2], 1), ([0, 2], 1)):
            assert_raises(self, WrongPlan, presses, total, Case(small(), states), told)
        self.assertEqual(total(Case(small(), [0]), told), 2)

    def test_least_plans(self):
        rng = random.Random(7)
        count = 0
        for case in oracle.random_cases(7, 60, 4, 3):
            for goal in oracle.goals_of(case, rng):
                if least_depth(case, goal) is not None:
                    for made in (plan(case, goal), total_plan(case, goal)):
                        count += 1
                        walks = [walk(case, made, state) for state in case.states]
                        self.assertEqual(walks, [oracle.presses_of(case, made, state) for state in case.states])
                        self.assertEqual(total(case, made), sum(len(done) for done in walks))
                        self.assertEqual(depth(made), max(len(done) for done in walks))
        self.assertGreater(count, 100)

    def test_many_presses(self):
        case = Case(numbered(), [3, 1])
        for count in (20, 100, 200):
            self.assertEqual(walk(case, chain(count), 1), [("low", ["ones"])] * count)
            self.assertEqual(total(case, chain(count)), 2 * count)
            for behind, wrong in ((count, press("none", ("", END))), (count - 1, press("low"))):
                with self.assertRaises(WrongPlan) as caught:
                    walk(case, chain(behind, told=wrong), 1)
                self.assertEqual(caught.exception.value, count)
                with self.assertRaises(WrongPlan) as caught:
                    total(case, chain(behind, told=wrong))
                self.assertEqual(caught.exception.value, count)
        wide = press("low", *[("", END)] * 199, ("ones", chain(19)))
        self.assertEqual(len(walk(case, wide, 3)), 20)
        case, goal = long_way()
        made = plan(case, goal)
        self.assertEqual([depth(made), max(len(walk(case, made, state)) for state in case.states)], [29, 29])

    def test_steps(self):
        case = Case(numbered(), [3, 1])
        for told in (chain(200), press("low", *[("", END)] * 199, ("ones", END))):
            self.assertLess(steps_of(depth, told)[1], 200 * 100)
            self.assertLess(steps_of(walk, case, told, 1)[1], 200 * 100)
            self.assertLess(steps_of(total, case, told)[1], 200 * 100)

    def test_arguments(self):
        assert_by_name(self, walk, ("case", self.case), ("told", self.told), ("state", 1))
        assert_by_name(self, total, ("case", self.case), ("told", self.told))
        for state in (0, 1, 2):
            assert_keeps_arguments(
                self, lambda told: walk(self.case, told, state),
                press("push", ("", press("push", ("", END), ("red", END))), ("red", END)))
        assert_keeps_arguments(
            self, lambda told: total(self.case, told),
            press("push", ("", press("push", ("", END), ("red", END))), ("red", END)))

    def test_answers_are_new(self):
        for state in (0, 1, 2):
            assert_fresh(self, lambda: walk(self.case, self.told, state))
        same = ["ones"]
        told = ("press", "low", [(same, ("press", "low", [(same, END)]))])
        assert_fresh(self, lambda: walk(Case(numbered(), [1]), told, 1))
        self.assertEqual(same, ["ones"])
