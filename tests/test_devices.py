"""Points [2], [3] and [4]: devices, their methods and properties."""

import unittest

from surepresses.devices import Device, alike_states, groups_of, parting_row, together
from surepresses.errors import DoubleName, Harmful, InvalidName, InvalidState, InvalidStep, UnknownButton, UnknownLamp
from tests.support import assert_fresh, assert_raises, spoil

HUGE = 10 ** 59


def told():
    """Return the parts of the device of the document's examples."""
    return (
        ["push", "turn"],
        ["red"],
        [{"push": (1, []), "turn": (0, ["red"])}, {"push": (2, []), "turn": (1, [])}, {"push": (2, ["red"])}],
    )


def wide():
    """Return a device of 20 states, 8 buttons and 8 lamps, with the last button harmful in each third state."""
    buttons = list("hgfedcba")
    lamps = list("ponmlkji")
    states = []
    for state in range(20):
        steps = {}
        for place, button in enumerate(buttons):
            if button != "a" or state % 3 != 0:
                steps[button] = ((state * (place + 1) + 3) % 20, lamps[place:place + state % 4])
        states.append(steps)
    return buttons, lamps, states


class DocumentTest(unittest.TestCase):
    def test_examples(self):
        device = Device(["push", "turn"], ["red"], [
            {"push": (1, []), "turn": (0, ["red"])}, {"push": (2, []), "turn": (1, [])}, {"push": (2, ["red"])}])
        self.assertEqual(
            [device.states[2], len(device), device.run(0, ["push", "push", "push"]),
             device.is_safe(0, ["push", "push", "turn"]), parting_row(device, 0, 1), parting_row(device, 1, 2)],
            [[("push", 2, ["red"])], 3, (2, [[], [], ["red"]]), False, ["turn"], ["push"]])
        other = Device(["push", "turn"], ["red"], [{"push": (0, []), "turn": (0, [])}])
        self.assertEqual(
            [alike_states(device), groups_of([device, other]), len(together([device, other])),
             alike_states(together([other, other]))],
            [[], [[0, 1, 2], [3]], 4, [(0, 1)]])

    def test_listed_names_stand_in_the_class_itself(self):
        for name in ("buttons", "lamps", "states", "__len__", "__eq__", "run", "is_safe"):
            self.assertIn(name, vars(Device))
        for made in (Device, parting_row, alike_states, together, groups_of):
            self.assertEqual(made.__module__, "surepresses.devices")


class PropertyTest(unittest.TestCase):
    def test_buttons_and_lamps_in_their_order(self):
        device = Device(["turn", "push"], ["wet", "red"], [{}])
        self.assertEqual([device.buttons, device.lamps, device.states], [["turn", "push"], ["wet", "red"], [[]]])

    def test_steps_in_the_order_of_the_buttons(self):
        forth = Device(["c", "a", "b"], [], [{"a": (0, []), "b": (1, []), "c": (0, [])}, {"b": (0, []), "c": (1, [])}])
        back = Device(["c", "a", "b"], [], [{"c": (0, []), "b": (1, []), "a": (0, [])}, {"c": (1, []), "b": (0, [])}])
        steps = [[("c", 0, []), ("a", 0, []), ("b", 1, [])], [("c", 1, []), ("b", 0, [])]]
        self.assertEqual([forth.states, back.states], [steps, steps])

    def test_lamps_of_a_step_in_the_order_of_the_device_each_once(self):
        device = Device(["a"], ["z", "x", "y"], [{"a": (0, ["y", "x", "y", "z", "x"])}, {"a": (1, ["y", "z", "y"])}])
        self.assertEqual(device.states, [[("a", 0, ["z", "x", "y"])], [("a", 1, ["z", "y"])]])
        self.assertEqual(device.run(0, ["a"]), (0, [["z", "x", "y"]]))

    def test_nothing_at_all(self):
        device = Device([], [], [{}])
        self.assertEqual([device.buttons, device.lamps, device.states, len(device)], [[], [], [[]], 1])
        self.assertEqual([device.run(0, []), device.is_safe(0, [])], [(0, []), True])

    def test_many_states(self):
        buttons, lamps, states = wide()
        device = Device(buttons, lamps, states)
        self.assertEqual([device.buttons, device.lamps, len(device)], [buttons, lamps, 20])
        self.assertEqual(device.states, [[(b, *steps[b]) for b in buttons if b in steps] for steps in states])

    def test_arguments_by_name(self):
        buttons, lamps, states = told()
        device = Device(states=states, lamps=lamps, buttons=buttons)
        self.assertEqual(device, Device(*told()))
        self.assertEqual(device.run(row=["push"], state=0), (1, [[]]))
        self.assertEqual(device.is_safe(row=["turn"], state=2), False)

    def test_kinds_of_values(self):
        device = Device(*told())
        self.assertIs(type(len(device)), int)
        self.assertIs(type(device.states[0]), list)
        self.assertIs(type(device.states[0][0]), tuple)
        self.assertIs(type(device.states[0][0][2]), list)
        self.assertIs(type(device.run(0, [])), tuple)
        self.assertIs(device.is_safe(0, []), True)
        self.assertIs(device.is_safe(2, ["turn"]), False)


class ConstructorErrorTest(unittest.TestCase):
    def check(self, error, value, buttons, lamps, states):
        assert_raises(self, error, value, Device, buttons, lamps, states)

    def test_names(self):
        for name in ("a", "z", "abcdefgh", "zzzzzzzz"):
            self.assertEqual(Device([name], [name], [{}]).buttons, [name])
        for name in ("", "abcdefghi", "A", "pusH", "a b", " a", "a ", "a1", "1", "a_b", "-", "{", "`", "~", "%", "@"):
            self.check(InvalidName, name, [name], [], [{}])
            self.check(InvalidName, name, [], [name], [{}])
            self.check(InvalidName, name, ["ok"], ["ok", name], [{}])

    def test_the_first_wrong_name(self):
        self.check(InvalidName, "B", ["a", "B", "C"], [], [{}])
        self.check(InvalidName, "C", ["a", "C", "a"], [], [{}])
        self.check(DoubleName, "a", ["a", "b", "a", "C"], [], [{}])
        self.check(DoubleName, "b", [], ["a", "b", "b", "a"], [{}])
        self.check(InvalidName, "C", [], ["a", "b", "C", "a"], [{}])
        self.check(InvalidName, "A", ["A", "A"], [], [{}])

    def test_buttons_ahead_of_lamps_ahead_of_steps(self):
        wrong = [{"none": (9, ["dark"])}]
        self.check(DoubleName, "a", ["a", "a"], ["Q"], wrong)
        self.check(InvalidName, "B", ["a", "B"], ["c", "c"], wrong)
        self.check(InvalidName, "Q", ["a"], ["Q"], wrong)
        self.check(DoubleName, "c", ["a"], ["c", "c"], wrong)
        self.check(UnknownButton, "none", ["a"], ["c"], wrong)

    def test_a_lamp_may_have_the_name_of_a_button(self):
        device = Device(["a", "b"], ["b", "a"], [{"a": (0, ["a"])}])
        self.assertEqual(device.states, [[("a", 0, ["a"])]])
        self.check(UnknownButton, "lamp", ["a"], ["lamp"], [{"lamp": (0, [])}])
        self.check(UnknownLamp, "a", ["a"], ["lamp"], [{"a": (0, ["a"])}])

    def test_unknown_buttons_of_any_kind(self):
        for name in ("", "A", "aa", "a b", "abcdefghij", "~"):
            self.check(UnknownButton, name, ["a"], [], [{"a": (0, [])}, {name: (0, [])}])
            self.check(UnknownLamp, name, ["a"], ["a"], [{"a": (0, [])}, {"a": (0, ["a", name, "b"])}])

    def test_next_states(self):
        for after in (-1, 2, 3, -2, HUGE, -HUGE, 10 ** 60 - 1):
            self.check(InvalidStep, (1, "a"), ["a"], [], [{"a": (1, [])}, {"a": (after, [])}])
        for after in (0, 1):
            self.assertEqual(Device(["a"], [], [{}, {"a": (after, [])}]).states[1], [("a", after, [])])

    def test_all_checks_for_one_button_before_the_next_one(self):
        buttons = ["d", "c", "b", "a"]
        self.check(UnknownLamp, "dark", buttons, [], [{"b": (5, []), "a": (0, ["dark"])}])
        self.check(InvalidStep, (0, "a"), buttons, [], [{"b": (0, ["dark"]), "a": (1, ["dark"])}])
        self.check(InvalidStep, (0, "b"), buttons, [], [{"x": (0, []), "b": (1, []), "a": (0, [])}])
        self.check(UnknownButton, "aa", buttons, [], [{"b": (1, []), "aa": (7, ["dark"]), "a": (0, [])}])
        self.check(UnknownButton, "A", buttons, [], [{"a": (1, []), "A": (0, [])}])

    def test_an_earlier_state_first(self):
        self.check(UnknownLamp, "dark", ["a", "b"], [], [{"b": (0, ["dark"])}, {"a": (9, [])}])
        self.check(InvalidStep, (0, "b"), ["a", "b"], [], [{"b": (2, [])}, {"A": (0, [])}])

    def test_the_first_unknown_lamp_of_a_list(self):
        self.check(UnknownLamp, "y", ["a"], ["x"], [{"a": (0, ["x", "x", "y", "b", "y"])}])


class RunTest(unittest.TestCase):
    def setUp(self):
        self.device = Device(*told())

    def test_rows(self):
        self.assertEqual(self.device.run(1, []), (1, []))
        self.assertEqual(self.device.run(0, ["turn", "push", "turn"]), (1, [["red"], [], []]))
        self.assertEqual(self.device.run(0, ["turn"] * 20), (0, [["red"]] * 20))
        self.assertEqual(self.device.run(0, ["push"] * 20), (2, [[], []] + [["red"]] * 18))
        self.assertEqual(self.device.is_safe(0, ["push"] * 20), True)

    def test_the_first_harmful_press_at_each_place(self):
        for place in range(20):
            row = ["push"] * place + ["turn"] + ["push"] * (19 - place)
            assert_raises(self, Harmful, place, self.device.run, 2, row)
            self.assertIs(self.device.is_safe(2, row), False)
            self.assertIs(self.device.is_safe(2, row[:place]), True)
            row[place:] = ["turn"] * (20 - place)
            assert_raises(self, Harmful, place, self.device.run, 2, row)
        assert_raises(self, Harmful, 4, self.device.run, 0, ["turn", "push", "turn", "push", "turn", "push"])

    def test_wrong_states(self):
        for state in (-1, 3, 4, HUGE, -HUGE):
            for row in ([], ["push"], ["none"], ["turn", "turn"]):
                assert_raises(self, InvalidState, state, self.device.run, state, row)
                assert_raises(self, InvalidState, state, self.device.is_safe, state, row)

    def test_unknown_buttons_ahead_of_harm(self):
        for name in ("none", "", "red", "PUSH", "push ", "~"):
            for row in ([name], ["push", name], ["turn", "push", name, "other"]):
                assert_raises(self, UnknownButton, name, self.device.run, 2, row)
                assert_raises(self, UnknownButton, name, self.device.is_safe, 2, row)

    def test_an_error_changes_no_later_answer(self):
        before = [self.device.states, self.device.run(0, ["push"]), self.device.is_safe(2, ["turn"])]
        for state, row in ((9, []), (0, ["none"]), (2, ["turn"])):
            self.assertRaises(ValueError, self.device.run, state, row)
        after = [self.device.states, self.device.run(0, ["push"]), self.device.is_safe(2, ["turn"])]
        self.assertEqual(after, before)


class EqualityTest(unittest.TestCase):
    def test_the_same_parts_told_in_another_way(self):
        one = Device(["a", "b"], ["x", "y"], [{"a": (0, ["x", "y"]), "b": (0, [])}])
        other = Device(["a", "b"], ["x", "y"], [{"b": (0, []), "a": (0, ["y", "x", "y"])}])
        self.assertIs(one == other, True)
        self.assertIs(one != other, False)
        self.assertIs(one == one, True)

    def test_each_single_difference(self):
        base = (["a", "b"], ["x", "y"], [{"a": (0, ["x"]), "b": (0, [])}, {"a": (1, [])}])
        others = [
            (["a", "b", "c"], base[1], base[2]),
            (["b", "a"], base[1], base[2]),
            (base[0], ["x", "y", "z"], base[2]),
            (base[0], ["y", "x"], base[2]),
            (base[0], ["x"], base[2]),
            (base[0], base[1], [{"a": (1, ["x"]), "b": (0, [])}, {"a": (1, [])}]),
            (base[0], base[1], [{"a": (0, ["y"]), "b": (0, [])}, {"a": (1, [])}]),
            (base[0], base[1], [{"a": (0, []), "b": (0, [])}, {"a": (1, [])}]),
            (base[0], base[1], [{"a": (0, ["x", "y"]), "b": (0, [])}, {"a": (1, [])}]),
            (base[0], base[1], [{"a": (0, ["x"])}, {"a": (1, [])}]),
            (base[0], base[1], [{"a": (0, ["x"]), "b": (0, [])}, {"a": (1, []), "b": (1, [])}]),
            (base[0], base[1], [{"a": (0, ["x"]), "b": (0, [])}, {"b": (1, [])}]),
            (base[0], base[1], base[2] + [{}]),
            (base[0], base[1], base[2] + [{"a": (1, [])}]),
        ]
        device = Device(*base)
        for parts in others:
            other = Device(*parts)
            self.assertIs(device == other, False, parts)
            self.assertIs(device != other, True, parts)
            self.assertIs(other == device, False, parts)

    def test_other_names_alone(self):
        self.assertIs(Device(["a"], [], [{}]) == Device(["b"], [], [{}]), False)
        self.assertIs(Device([], ["a"], [{}]) == Device([], ["b"], [{}]), False)
        self.assertIs(Device(["a"], [], [{}]) == Device([], ["a"], [{}]), False)

    def test_never_equal_to_anything_else(self):
        device = Device(*told())
        for other in (None, 0, 3, True, "", "push", [], device.states, (), told(), {}, {"push": 1}, object(), Device):
            self.assertIs(device == other, False)
            self.assertIs(device != other, True)
            self.assertIs(other == device, False)
            self.assertIs(other != device, True)


class FreshTest(unittest.TestCase):
    def test_changes_behind_the_call_change_nothing(self):
        parts = told()
        shared = ["red"]
        parts[2][0]["turn"] = (0, shared)
        parts[2][2]["push"] = (2, shared)
        device = Device(*parts)
        spoil(parts)
        shared.clear()
        self.assertNotIn({"push": (1, []), "turn": (0, ["red"])}, parts[2])
        self.assertEqual(device, Device(*told()))
        self.assertEqual(device.states, Device(*told()).states)
        self.assertEqual([device.buttons, device.lamps, len(device)], [["push", "turn"], ["red"], 3])

    def test_arguments_stay_as_they_were(self):
        parts = told()
        Device(*parts)
        self.assertEqual(parts, told())
        row = ["push", "push"]
        Device(*parts).run(0, row)
        Device(*parts).is_safe(0, row)
        self.assertEqual(row, ["push", "push"])

    def test_answers_are_new(self):
        device = Device(*wide())
        assert_fresh(self, lambda: device.buttons)
        assert_fresh(self, lambda: device.lamps)
        assert_fresh(self, lambda: device.states)
        assert_fresh(self, lambda: device.run(3, ["h", "h", "h", "g", "g"]))
        small = Device(*told())
        assert_fresh(self, lambda: small.run(0, ["turn"] * 5))
        assert_fresh(self, lambda: small.states)
