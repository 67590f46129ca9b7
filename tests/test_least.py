"""Points [2], [3] and [10]: the least sets of lamps and of buttons."""

import itertools
import random
import unittest

from surepresses import least
from surepresses.cases import Case
from surepresses.devices import Device
from surepresses.least import least_buttons, least_lamps
from surepresses.plans import least_depth
from tests import oracle
from tests.support import assert_by_name, assert_fresh, assert_goal_errors, assert_keeps_arguments, steps_of
from tests.test_plans import mixing, numbered, small


def subsets(names):
    """Return all subsets, by their number of entries, then by their indexes."""
    return [list(chosen) for size in range(len(names) + 1) for chosen in itertools.combinations(names, size)]


def least_of(names, enough):
    """Return those sets of which no proper subset is enough."""
    found = [chosen for chosen in subsets(names) if enough(chosen)]
    return [chosen for chosen in found if not [less for less in found if set(less) < set(chosen)]]


class DocumentTest(unittest.TestCase):
    def test_examples(self):
        device = Device(["push", "turn"], ["red"], [
            {"push": (1, []), "turn": (0, ["red"])}, {"push": (2, []), "turn": (1, [])}, {"push": (2, ["red"])}])
        case = Case(device, [0, 1], lamps=[], buttons=[])
        self.assertEqual(
            [least_lamps(Case(device, [0, 1, 2]), ("first",)), least_lamps(Case(device, [0, 1, 2]), ("now",)),
             least_lamps(case, ("first",)), least_buttons(case.with_lamps(["red"]), ("first",))],
            [[["red"]], [[]], [], [["push"], ["turn"]]])

    def test_functions_are_defined_in_the_file(self):
        for made in (least_lamps, least_buttons):
            self.assertEqual(made.__module__, "surepresses.least")
        self.assertIs(least.least_lamps, least_lamps)


class LampTest(unittest.TestCase):
    def test_all_least_sets_in_their_order(self):
        device = Device(["a"], ["z", "x", "y"], [
            {"a": (0, ["x"])}, {"a": (1, ["x", "z"])}, {"a": (2, ["y", "z"])}, {"a": (3, [])}])
        self.assertEqual(least_lamps(Case(device, [0, 1]), ("first",)), [["z"]])
        self.assertEqual(least_lamps(Case(device, [0, 2]), ("first",)), [["z"], ["x"], ["y"]])
        self.assertEqual(least_lamps(Case(device, [0, 1, 2]), ("first",)), [["z", "x"], ["z", "y"]])
        self.assertEqual(least_lamps(Case(device, [0, 2, 3]), ("first",)), [["z", "x"], ["x", "y"]])
        self.assertEqual(least_lamps(Case(device, [0, 1, 3]), ("first",)), [["z", "x"]])
        self.assertEqual(least_lamps(Case(device, [0, 1, 2]), ("group", [[0, 1], [2]])), [["x"], ["y"]])
        self.assertEqual(least_lamps(Case(device, [0, 2, 3]), ("group", [[0, 3], [2]])), [["z"], ["y"]])

    def test_sets_of_different_sizes(self):
        device = Device(["a"], ["w", "x", "y"], [{"a": (0, ["x", "y"])}, {"a": (1, ["w", "x"])}, {"a": (2, ["y"])}])
        self.assertEqual(least_lamps(Case(device, [0, 1, 2]), ("group", [[0], [1, 2]])), [["w", "x"], ["x", "y"]])
        device = Device(["a"], ["x", "w", "y"], [
            {"a": (0, ["w"])}, {"a": (1, ["w", "x"])}, {"a": (2, ["y"])}, {"a": (3, ["y", "x"])}])
        self.assertEqual(least_lamps(Case(device, [0, 1, 2]), ("group", [[0, 1], [2]])), [["w"], ["y"]])
        self.assertEqual(least_lamps(Case(device, [0, 1, 2]), ("first",)), [["x", "w"], ["x", "y"]])
        device = Device(["a", "b"], ["x", "w", "y"], [
            {"a": (0, ["w"]), "b": (0, [])}, {"a": (1, ["x"]), "b": (1, ["y"])}, {"a": (2, []), "b": (2, ["y"])}])
        self.assertEqual(least_lamps(Case(device, [0, 1, 2]), ("group", [[0], [1, 2]])), [["w"], ["y"]])
        self.assertEqual(least_lamps(Case(device, [0, 1, 2]), ("first",)), [["x", "w"], ["x", "y"]])
        # One lamp is enough, or else two others together.
        device = Device(["a"], ["y", "x", "w"], [{"a": (0, ["w", "x"])}, {"a": (0, ["y"])}, {"a": (0, ["x", "y"])}])
        self.assertEqual(least_lamps(Case(device, [0, 1, 2]), ("group", [[0], [1, 2]])), [["y"], ["w"]])
        device = Device(["a", "b"], ["y", "x", "w"], [
            {"a": (0, ["w"]), "b": (0, ["x"])}, {"a": (1, []), "b": (0, ["y"])}, {"a": (2, []), "b": (2, [])}])
        self.assertEqual(least_lamps(Case(device, [0, 1, 2]), ("group", [[0], [1, 2]])), [["x"], ["w"]])
        device = Device(["a"], ["y", "x", "w"], [
            {"a": (0, ["w"])}, {"a": (1, ["x"])}, {"a": (2, ["y"])}])
        self.assertEqual(least_lamps(Case(device, [0, 1, 2]), ("group", [[0], [1, 2]])), [["w"], ["y", "x"]])
        self.assertEqual(least_lamps(Case(device, [0, 1, 2]), ("group", [[0, 1], [2]])), [["y"], ["x", "w"]])

    def test_the_watched_lamps_of_the_case_have_no_effect(self):
        for states in ([0, 1, 2], [0, 1], [2]):
            for goal in (("first",), ("now",), ("in", [0]), ("group", [[0], [1, 2]])):
                wanted = least_lamps(Case(numbered(), states), goal)
                for lamps in subsets(["ones", "twos"]):
                    self.assertEqual(least_lamps(Case(numbered(), states, lamps=lamps), goal), wanted)

    def test_the_usable_buttons_of_the_case_count(self):
        case = Case(numbered(), [0, 1, 2])
        self.assertEqual(least_lamps(case, ("first",)), [["ones", "twos"]])
        self.assertEqual(least_lamps(case.with_buttons(["low", "dark"]), ("first",)), [])
        self.assertEqual(least_lamps(case.with_buttons(["low"]), ("group", [[0, 2], [1]])), [["ones"]])
        self.assertEqual(least_lamps(case.with_buttons([]), ("first",)), [])
        self.assertEqual(least_lamps(case.with_buttons([]), ("in", [0, 1, 2])), [[]])
        # High tells 2 from the others, which dark then brings together.
        self.assertEqual(least_lamps(case, ("now",)), [["twos"]])
        self.assertEqual(least_lamps(case.with_buttons(["both", "high"]), ("now",)), [["ones", "twos"]])

    def test_the_empty_set_and_no_set(self):
        for goal in (("now",), ("first",), ("group", [[1]]), ("in", [1])):
            self.assertEqual(least_lamps(Case(small(), [1]), goal), [[]])
        self.assertEqual(least_lamps(Case(small(), [0, 1, 2]), ("in", [2])), [[]])
        self.assertEqual(least_lamps(Case(small(), [0, 1, 2]), ("in", [])), [])
        self.assertEqual(least_lamps(Case(mixing(), [0, 1, 2]), ("first",)), [])
        self.assertEqual(least_lamps(Case(Device([], [], [{}, {}]), [0, 1]), ("now",)), [])
        self.assertEqual(least_lamps(Case(Device([], [], [{}, {}]), [0, 1]), ("in", [0, 1])), [[]])


class ButtonTest(unittest.TestCase):
    def test_all_least_sets_in_their_order(self):
        case = Case(numbered(), [0, 1, 2])
        self.assertEqual(least_buttons(case, ("first",)), [["both"], ["low", "high"]])
        self.assertEqual(least_buttons(case, ("group", [[0, 2], [1]])), [["both"], ["low"]])
        self.assertEqual(least_buttons(case, ("group", [[0, 1], [2]])), [["both"], ["high"]])
        self.assertEqual(least_buttons(case, ("now",)), [["both"], ["low", "high"], ["high", "dark"]])
        self.assertEqual(least_buttons(case.with_lamps(["twos"]), ("now",)), [["both", "dark"], ["high", "dark"]])
        self.assertEqual(least_buttons(case.with_lamps([]), ("now",)), [])

    def test_sets_of_two_and_three(self):
        case = Case(mixing(), [0, 1, 2])
        self.assertEqual(least_buttons(case, ("now",)), [["turn", "join"]])
        self.assertEqual(least_buttons(case, ("in", [1])), [["turn", "join"]])
        device = Device(["d", "c", "b", "a"], [], [
            {"a": (1, []), "d": (2, [])}, {"b": (2, [])}, {"c": (3, []), "a": (3, [])}, {}])
        self.assertEqual(least_buttons(Case(device, [0]), ("in", [3])), [["d", "c"], ["d", "a"], ["b", "a"]])
        device = Device(["d", "c", "b", "a"], [], [{"a": (1, []), "d": (3, [])}, {"b": (2, [])}, {"c": (3, [])}, {}])
        self.assertEqual(least_buttons(Case(device, [0]), ("in", [3])), [["d"], ["c", "b", "a"]])

    def test_the_usable_buttons_of_the_case_have_no_effect(self):
        for states in ([0, 1, 2], [0, 1], [2]):
            for goal in (("first",), ("now",), ("in", [0]), ("group", [[0], [1, 2]])):
                wanted = least_buttons(Case(numbered(), states), goal)
                for buttons in subsets(["both", "low", "high", "dark"]):
                    self.assertEqual(least_buttons(Case(numbered(), states, buttons=buttons), goal), wanted)

    def test_the_watched_lamps_of_the_case_count(self):
        case = Case(small(), [0, 1, 2])
        self.assertEqual(least_buttons(case, ("first",)), [["push"]])
        self.assertEqual(least_buttons(case.with_lamps([]), ("first",)), [])
        self.assertEqual(least_buttons(Case(small(), [0, 1]), ("now",)), [["push"], ["turn"]])
        self.assertEqual(least_buttons(Case(small(), [0, 1], lamps=[]), ("now",)), [["push"]])

    def test_the_empty_set_and_no_set(self):
        for goal in (("now",), ("first",), ("group", [[1]]), ("in", [1])):
            self.assertEqual(least_buttons(Case(small(), [1]), goal), [[]])
        self.assertEqual(least_buttons(Case(small(), [0, 1, 2]), ("in", [2, 1, 0])), [[]])
        self.assertEqual(least_buttons(Case(small(), [0, 1, 2]), ("in", [])), [])
        self.assertEqual(least_buttons(Case(Device([], [], [{}, {}]), [0, 1]), ("first",)), [])
        self.assertEqual(least_buttons(Case(Device([], [], [{}, {}]), [0, 1]), ("in", [0, 1])), [[]])


class BothTest(unittest.TestCase):
    def test_against_all_subsets(self):
        rng = random.Random(16)
        sizes = {}
        for _ in range(70):
            device = oracle.random_device(rng, 4, rng.randint(1, 4), rng.randint(1, 3), 0.2, rng.choice([0.6, 0.9]))
            case = Case(device, rng.sample(range(4), 3))
            lamps, buttons = ([name for name in names if rng.random() < 0.7] for names in (device.lamps, device.buttons))
            for goal in oracle.goals_of(case, rng):
                found = least_lamps(case.with_buttons(buttons), goal)
                self.assertEqual(found, least_of(device.lamps, lambda chosen: least_depth(
                    Case(device, case.states, lamps=chosen, buttons=buttons), goal) is not None))
                others = least_buttons(case.with_lamps(lamps), goal)
                self.assertEqual(others, least_of(device.buttons, lambda chosen: least_depth(
                    Case(device, case.states, lamps=lamps, buttons=chosen), goal) is not None))
                for chosen in found + others:
                    sizes[len(chosen)] = sizes.get(len(chosen), 0) + 1
        for size in (0, 1, 2):
            self.assertGreater(sizes[size], 10)

    def test_wrong_goals(self):
        for ask in (least_lamps, least_buttons):
            assert_goal_errors(self, ask)

    def test_arguments_and_answers(self):
        case = Case(numbered(), [0, 1, 2])
        for ask in (least_lamps, least_buttons):
            for goal in (("first",), ("now",), ("in", [0]), ("in", [2, 1, 0])):
                assert_by_name(self, ask, ("case", case), ("goal", goal))
                assert_fresh(self, lambda: ask(case, goal))
                self.assertEqual({type(place) for place in [ask(case, goal)] + ask(case, goal)}, {list})
            assert_keeps_arguments(self, lambda goal: ask(case, goal), ("group", [[0], [1, 2]]))
            assert_keeps_arguments(self, lambda goal: ask(case, goal), ("in", [0, 1, 2]))
        self.assertEqual([case.lamps, case.buttons], [["ones", "twos"], ["both", "low", "high", "dark"]])

    def test_steps(self):
        beliefs = 215
        lit = Device(["turn", "swap", "join", "tell"], ["x", "y", "z"], [
            {"turn": ((state + 1) % 5, []), "swap": ((1, 0, 2, 3, 4)[state], []), "join": (max(state, 1), []),
             "tell": (state, ["x", "y", "z"][:state // 4])} for state in range(5)])
        for goal in (("first",), ("now",), ("in", []), ("in", [0]), ("group", [[9] * 20] * 18 + [[0, 1], [2]])):
            for device in (lit, mixing()):
                for ask in (least_lamps, least_buttons):
                    self.assertLess(steps_of(ask, Case(device, [0, 1, 2]), goal)[1], 4000 * beliefs)
