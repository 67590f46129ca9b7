"""Points [2], [3], [5] and [6]: cases, their properties and beliefs."""

import copy
import unittest

from surepresses.cases import Case
from surepresses.devices import Device
from surepresses.errors import Harmful, InvalidBelief, InvalidState, UnknownButton, UnknownLamp
from tests.support import assert_fresh, assert_raises, spoil, steps_of
from tests.test_devices import told, wide

HUGE = 10 ** 59


def small():
    """Return the device of the document's examples."""
    return Device(*told())


def answering():
    """Return a device whose lamps stand in another order than that of their names."""
    states = [
        {"go": (1, ["red"]), "halt": (0, [])}, {"go": (2, ["blue", "red"]), "halt": (1, ["red"])},
        {"go": (3, ["amber"])}, {"go": (4, [])}, {"go": (0, ["red", "amber"]), "halt": (3, [])},
    ]
    return Device(["halt", "go"], ["red", "blue", "amber"], states)


class DocumentTest(unittest.TestCase):
    def test_examples(self):
        device = Device(["push", "turn"], ["red"], [
            {"push": (1, []), "turn": (0, ["red"])}, {"push": (2, []), "turn": (1, [])}, {"push": (2, ["red"])}])
        case = Case(device, [2, 0, 1])
        self.assertEqual(
            [case.start, case.safe_buttons(case.start), case.next_beliefs(case.start, "push"),
             case.safe_buttons([(0, 0), (1, 1)]), case.meets([(0, 2), (1, 2)], ("now",)),
             case.meets([(0, 2), (1, 2)], ("first",))],
            [[(0, 0), (1, 1), (2, 2)], ["push"], [([], [(0, 1), (1, 2)]), (["red"], [(2, 2)])],
             ["push", "turn"], True, False])
        self.assertEqual(
            [case.meets(case.start, ("group", [[0, 1, 2]])), case.meets([(0, 1)], ("in", [0, 2])),
             case.with_lamps([]).next_beliefs(case.start, "push"), case.lamps,
             Case(device, [1], buttons=["turn"]).safe_buttons([(1, 2)])],
            [True, False, [([], [(0, 1), (1, 2), (2, 2)])], ["red"], []])

    def test_listed_names_stand_in_the_class_itself(self):
        names = (
            "device", "states", "lamps", "buttons", "start", "safe_buttons", "next_beliefs", "meets", "with_lamps",
            "with_buttons", "__eq__")
        for name in names:
            self.assertIn(name, vars(Case))
        self.assertEqual(Case.__module__, "surepresses.cases")


class PropertyTest(unittest.TestCase):
    def parts(self, case):
        return [case.states, case.lamps, case.buttons, case.start]

    def test_all_of_the_device(self):
        device = answering()
        wanted = [[0, 3], ["red", "blue", "amber"], ["halt", "go"], [(0, 0), (3, 3)]]
        self.assertEqual(self.parts(Case(device, [3, 0])), wanted)
        self.assertEqual(self.parts(Case(device, [0, 3], lamps=None, buttons=None)), wanted)
        self.assertEqual(self.parts(Case(buttons=None, states=[3, 0, 3], device=device)), wanted)
        self.assertIs(Case(device, [0]).device, device)

    def test_any_order_and_duplicates(self):
        case = Case(answering(), [4, 1, 4, 0, 1], lamps=["amber", "red", "amber"], buttons=["go", "halt", "go"])
        self.assertEqual(
            self.parts(case), [[0, 1, 4], ["red", "amber"], ["halt", "go"], [(0, 0), (1, 1), (4, 4)]])
        case = Case(answering(), [2], lamps=["blue", "red"], buttons=["go", "go"])
        self.assertEqual(self.parts(case), [[2], ["red", "blue"], ["go"], [(2, 2)]])

    def test_empty_lists(self):
        case = Case(answering(), [1], lamps=[], buttons=[])
        self.assertEqual(self.parts(case), [[1], [], [], [(1, 1)]])
        case = Case(Device([], [], [{}]), [0])
        self.assertEqual(self.parts(case), [[0], [], [], [(0, 0)]])

    def test_many_states(self):
        case = Case(Device(*wide()), list(range(19, -1, -1)))
        self.assertEqual(case.states, list(range(20)))
        self.assertEqual(case.start, [(state, state) for state in range(20)])
        case = Case(Device(*wide()), [19, 8, 1, 16, 8])
        self.assertEqual([case.states, case.start], [[1, 8, 16, 19], [(1, 1), (8, 8), (16, 16), (19, 19)]])

    def test_lamps_and_buttons_by_name_only(self):
        self.assertRaises(TypeError, Case, small(), [0], ["red"])
        self.assertRaises(TypeError, Case, small(), [0], ["red"], ["push"])

    def test_wrong_states(self):
        for wrong in (-1, 3, HUGE, -HUGE):
            assert_raises(self, InvalidState, wrong, Case, small(), [wrong])
            assert_raises(self, InvalidState, wrong, Case, small(), [0, wrong, 5, -5])
        assert_raises(self, InvalidState, 7, Case, small(), [2, 7, -1])

    def test_wrong_lamps_and_buttons(self):
        for wrong in ("blue", "push", "", "RED", "red ", "~"):
            assert_raises(self, UnknownLamp, wrong, Case, small(), [0], lamps=["red", wrong, "other"])
        for wrong in ("pull", "red", "", "PUSH", "push ", "~"):
            assert_raises(self, UnknownButton, wrong, Case, small(), [0], buttons=["turn", wrong, "other"])

    def test_errors_in_order(self):
        assert_raises(self, InvalidState, 3, Case, small(), [3], lamps=["no"], buttons=["no"])
        assert_raises(self, UnknownLamp, "no", Case, small(), [0], buttons=["none"], lamps=["no"])
        assert_raises(self, UnknownButton, "none", Case, small(), [0], buttons=["none"], lamps=["red"])

    def test_changes_behind_the_call_change_nothing(self):
        states, lamps, buttons = [2, 0], ["red"], ["turn", "push"]
        case = Case(small(), states, lamps=lamps, buttons=buttons)
        self.assertEqual([states, lamps, buttons], [[2, 0], ["red"], ["turn", "push"]])
        before = self.parts(case)
        for passed in (states, lamps, buttons):
            spoil(passed)
        self.assertEqual(self.parts(case), before)
        self.assertEqual(case, Case(small(), [0, 2]))

    def test_answers_are_new(self):
        case = Case(answering(), [0, 1, 4])
        assert_fresh(self, lambda: [case.states, case.lamps, case.buttons, case.start])
        assert_fresh(self, lambda: case.device.states)


class BeliefTest(unittest.TestCase):
    def test_safe_buttons(self):
        case = Case(answering(), [0, 1, 2, 3, 4])
        self.assertEqual(case.safe_buttons([(0, 0), (1, 1), (2, 4)]), ["halt", "go"])
        self.assertEqual(case.safe_buttons([(0, 0), (1, 2), (2, 4)]), ["go"])
        self.assertEqual(case.safe_buttons([(4, 3)]), ["go"])
        self.assertEqual(case.with_buttons(["halt"]).safe_buttons([(4, 3)]), [])
        self.assertEqual(case.with_buttons(["halt"]).safe_buttons([(4, 1)]), ["halt"])
        self.assertEqual(case.with_buttons([]).safe_buttons(case.start), [])
        self.assertEqual(Case(Device(["a"], [], [{}]), [0]).safe_buttons([(0, 0)]), [])

    def test_usable_buttons_in_the_order_of_the_device(self):
        case = Case(answering(), [0], buttons=["go", "halt"])
        self.assertEqual(case.safe_buttons([(0, 1)]), ["halt", "go"])

    def test_answers_ascending_as_lists_of_strings(self):
        case = Case(answering(), [0, 1, 2, 3, 4])
        self.assertEqual(case.next_beliefs(case.start, "go"), [
            ([], [(3, 4)]), (["amber"], [(2, 3)]), (["red"], [(0, 1)]), (["red", "amber"], [(4, 0)]),
            (["red", "blue"], [(1, 2)])])
        ordered = Device(["a"], ["z", "y", "x"], [
            {"a": (0, ["z"])}, {"a": (0, ["x"])}, {"a": (0, ["z", "x"])}, {"a": (0, ["y", "x"])}, {"a": (0, ["y"])},
            {"a": (0, [])}, {"a": (0, ["x", "y", "z"])}, {"a": (0, ["z", "y"])}])
        case = Case(ordered, list(range(8)))
        self.assertEqual(
            [answer for answer, _ in case.next_beliefs(case.start, "a")],
            [[], ["x"], ["y"], ["y", "x"], ["z"], ["z", "x"], ["z", "y"], ["z", "y", "x"]])

    def test_only_watched_lamps_answer(self):
        case = Case(answering(), [0, 1, 2, 3, 4])
        self.assertEqual(case.with_lamps(["amber"]).next_beliefs(case.start, "go"), [
            ([], [(0, 1), (1, 2), (3, 4)]), (["amber"], [(2, 3), (4, 0)])])
        self.assertEqual(case.with_lamps(["amber", "red"]).next_beliefs(case.start, "go"), [
            ([], [(3, 4)]), (["amber"], [(2, 3)]), (["red"], [(0, 1), (1, 2)]), (["red", "amber"], [(4, 0)])])
        self.assertEqual(case.with_lamps([]).next_beliefs(case.start, "go"), [
            ([], [(0, 1), (1, 2), (2, 3), (3, 4), (4, 0)])])

    def test_the_state_now_answers_and_the_first_one_stays(self):
        case = Case(answering(), [0, 2, 4])
        self.assertEqual(
            case.next_beliefs([(0, 1), (2, 1), (4, 3)], "go"), [([], [(4, 4)]), (["red", "blue"], [(0, 2), (2, 2)])])
        self.assertEqual(case.next_beliefs([(2, 0), (4, 1)], "halt"), [([], [(2, 0)]), (["red"], [(4, 1)])])

    def test_arguments_by_name(self):
        case = Case(small(), [0, 1, 2])
        self.assertEqual(case.safe_buttons(belief=[(0, 2)]), ["push"])
        self.assertEqual(case.next_beliefs(button="push", belief=[(0, 2)]), [(["red"], [(0, 2)])])
        self.assertIs(case.meets(goal=("first",), belief=[(0, 2)]), True)

    def test_kinds_of_values(self):
        case = Case(small(), [0, 1, 2])
        for answer in case.next_beliefs(case.start, "push"):
            self.assertEqual([type(answer), type(answer[0]), type(answer[1])], [tuple, list, list])
            self.assertEqual({type(entry) for entry in answer[1]}, {tuple})

    def test_answers_are_new(self):
        case = Case(answering(), [0, 1, 2, 3, 4])
        assert_fresh(self, lambda: case.safe_buttons(case.start))
        assert_fresh(self, lambda: case.next_beliefs(case.start, "go"))
        assert_fresh(self, lambda: case.with_lamps([]).next_beliefs(case.start, "go"))
        belief = [(0, 1), (1, 1)]
        assert_fresh(self, lambda: case.next_beliefs(belief, "halt"))
        self.assertEqual(belief, [(0, 1), (1, 1)])

    def test_steps(self):
        case = Case(Device(*wide()), list(range(20)))
        for call in (case.safe_buttons, lambda belief: case.next_beliefs(belief, "b")):
            self.assertLess(steps_of(call, case.start)[1], 4000)


class BeliefErrorTest(unittest.TestCase):
    def setUp(self):
        self.case = Case(small(), [0, 2], buttons=["push"])
        self.wrong = [
            [], [(2, 0), (0, 0)], [(0, 1), (0, 2)], [(0, 2), (0, 1)], [(0, 1), (0, 1)], [(1, 1)], [(0, 0), (1, 1)],
            [(0, 0), (1, 1), (2, 2)], [(-1, 0), (0, 0)], [(0, 0), (3, 0)], [(HUGE, 0)], [(-HUGE, 0)], [(0, 3)],
            [(0, -1)], [(0, 0), (2, 3)], [(0, 0), (2, -1)], [(0, HUGE)], [(0, -HUGE)], [(2, 2), (0, 0), (2, 2)],
        ]

    def test_no_beliefs(self):
        for belief in self.wrong:
            assert_raises(self, InvalidBelief, belief, self.case.safe_buttons, belief)
            for button in ("push", "turn", "none"):
                assert_raises(self, InvalidBelief, belief, self.case.next_beliefs, belief, button)
            for goal in (("now",), ("first",), ("in", [9]), ("none",)):
                assert_raises(self, InvalidBelief, belief, self.case.meets, belief, goal)

    def test_the_copy_is_another_list(self):
        for belief in self.wrong:
            with self.assertRaises(InvalidBelief) as caught:
                self.case.safe_buttons(belief)
            kept = copy.deepcopy(belief)
            self.assertEqual(caught.exception.value, kept)
            belief.append((5, 5))
            self.assertEqual(caught.exception.value, kept)

    def test_buttons_that_are_not_usable(self):
        for button in ("turn", "none", "", "red", "PUSH", "~"):
            assert_raises(self, UnknownButton, button, self.case.next_beliefs, [(0, 0)], button)
        assert_raises(self, UnknownButton, "turn", self.case.next_beliefs, [(0, 2)], "turn")

    def test_harm(self):
        case = Case(small(), [0, 1, 2])
        for belief in ([(0, 2)], [(0, 0), (1, 2)], [(0, 0), (1, 1), (2, 2)], [(0, 2), (1, 0)]):
            assert_raises(self, Harmful, "turn", case.next_beliefs, belief, "turn")
        self.assertEqual(case.next_beliefs([(1, 0), (2, 1)], "turn"), [([], [(2, 1)]), (["red"], [(1, 0)])])

    def test_an_error_changes_no_later_answer(self):
        before = [self.case.start, self.case.next_beliefs(self.case.start, "push")]
        for belief in self.wrong:
            self.assertRaises(InvalidBelief, self.case.next_beliefs, belief, "push")
        self.assertRaises(UnknownButton, self.case.next_beliefs, [(0, 0)], "none")
        self.assertEqual([self.case.start, self.case.next_beliefs(self.case.start, "push")], before)


class OtherCaseTest(unittest.TestCase):
    def test_with_lamps(self):
        case = Case(answering(), [0, 4], lamps=["red"], buttons=["go"])
        self.assertEqual(case.with_lamps(["amber", "blue", "amber"]).lamps, ["blue", "amber"])
        self.assertEqual(case.with_lamps([]).lamps, [])
        self.assertEqual(case.with_lamps(None).lamps, ["red", "blue", "amber"])
        self.assertEqual(case.with_lamps(lamps=["blue"]), Case(answering(), [0, 4], lamps=["blue"], buttons=["go"]))
        self.assertIs(type(case.with_lamps([])), Case)

    def test_with_buttons(self):
        case = Case(answering(), [0, 4], lamps=["red"], buttons=["go"])
        self.assertEqual(case.with_buttons(["go", "halt", "go"]).buttons, ["halt", "go"])
        self.assertEqual(case.with_buttons([]).buttons, [])
        self.assertEqual(case.with_buttons(None).buttons, ["halt", "go"])
        self.assertEqual(case.with_buttons(buttons=["halt"]), Case(answering(), [4, 0], lamps=["red"], buttons=["halt"]))
        self.assertIs(type(case.with_buttons([])), Case)

    def test_the_rest_stays(self):
        case = Case(answering(), [0, 4], lamps=["red"], buttons=["go"])
        self.assertEqual(case.with_lamps([]).with_buttons([]), Case(answering(), [0, 4], lamps=[], buttons=[]))
        self.assertEqual(case.with_lamps(None).buttons, ["go"])
        self.assertEqual(case.with_buttons(None).lamps, ["red"])
        self.assertEqual(case.with_lamps(["red"]), case)

    def test_the_case_stays_as_it_was(self):
        case = Case(answering(), [0, 4], lamps=["red"], buttons=["go"])
        wished = ["blue", "amber"]
        other = case.with_lamps(wished)
        spoil(wished)
        self.assertEqual(other.lamps, ["blue", "amber"])
        wished = ["halt"]
        other = case.with_buttons(wished)
        spoil(wished)
        self.assertEqual(other.buttons, ["halt"])
        self.assertEqual([case.states, case.lamps, case.buttons], [[0, 4], ["red"], ["go"]])

    def test_unknown_entries(self):
        case = Case(answering(), [0, 4])
        for wrong in ("pink", "go", "", "RED"):
            assert_raises(self, UnknownLamp, wrong, case.with_lamps, ["red", wrong, "other"])
        for wrong in ("pull", "red", "", "GO"):
            assert_raises(self, UnknownButton, wrong, case.with_buttons, ["go", wrong, "other"])
        self.assertEqual(case, Case(answering(), [0, 4]))


class EqualityTest(unittest.TestCase):
    def test_the_same_parts_told_in_another_way(self):
        one = Case(answering(), [0, 1], lamps=["red", "blue", "amber"], buttons=["go", "halt"])
        for other in (Case(answering(), [1, 0, 1]), one, one.with_lamps(None), Case(answering(), [0, 1], lamps=[
                "amber", "blue", "red", "red"])):
            self.assertIs(one == other, True)
            self.assertIs(one != other, False)

    def test_each_single_difference(self):
        case = Case(small(), [0, 1])
        buttons, lamps, states = told()
        longer = Device(buttons, lamps, states + [{}])
        others = [
            Case(longer, [0, 1]), Case(small(), [0]), Case(small(), [0, 1, 2]), Case(small(), [0, 2]),
            Case(small(), [0, 1], lamps=[]), Case(small(), [0, 1], buttons=["push"]),
            Case(small(), [0, 1], buttons=["turn"]), Case(small(), [0, 1], buttons=[]),
        ]
        for other in others:
            self.assertIs(case == other, False)
            self.assertIs(case != other, True)
            self.assertIs(other == case, False)
        self.assertIs(Case(answering(), [0], lamps=["red"]) == Case(answering(), [0], lamps=["blue"]), False)

    def test_never_equal_to_anything_else(self):
        case = Case(small(), [0, 1])
        for other in (None, 0, 2, True, "", "case", [], case.start, (), (0, 1), {}, {0: 1}, object(), small(), Case):
            self.assertIs(case == other, False)
            self.assertIs(case != other, True)
            self.assertIs(other == case, False)
            self.assertIs(other != case, True)
