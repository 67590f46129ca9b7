"""Points [2], [3] and [4], and the order of [9]: what tells states apart, and devices together."""

import itertools
import random
import unittest

from surepresses.devices import Device, alike_states, groups_of, parting_row, together
from surepresses.errors import InvalidState, UnlikeDevices
from tests.support import assert_fresh, assert_raises, steps_of
from tests.test_devices import told, wide

HUGE = 10 ** 59
# [2] grants some thousands of steps for each pair of states.
STEPS_OF_A_PAIR = 2000


def drawn(seed, count, buttons, lamps, harm, dark):
    """Return a device drawn by a seed: so many states, harmful presses and dark presses of a hundred."""
    draw = random.Random(seed)
    states = []
    for _ in range(count):
        steps = {}
        for button in buttons:
            if draw.randrange(100) >= harm:
                on = [lamp for lamp in lamps if draw.randrange(100) >= dark]
                steps[button] = (draw.randrange(count), on)
        states.append(steps)
    return Device(buttons, lamps, states)


def told_apart(device, one, other, row):
    """Tell whether a row is safe from both states and shows them apart."""
    if not device.is_safe(one, row) or not device.is_safe(other, row):
        return False
    return device.run(one, row)[1] != device.run(other, row)[1]


def tried_row(device, one, other):
    """Return the first parting row by trying all rows, up to the number of pairs of states."""
    pairs = len(device) * (len(device) - 1) // 2
    for length in range(pairs + 1):
        for row in itertools.product(device.buttons, repeat=length):
            if told_apart(device, one, other, list(row)):
                return list(row)
    return None


def counter(count, buttons, harmful=()):
    """Return a device that counts upwards by its first button and shows a lamp in its last state alone."""
    states = []
    for state in range(count):
        last = state == count - 1
        steps = {buttons[0]: (0 if last else state + 1, ["on"] if last else [])}
        for button in buttons[1:]:
            if (state, button) not in harmful:
                steps[button] = (state, [])
        states.append(steps)
    return Device(buttons, ["on"], states)


class PartingRowTest(unittest.TestCase):
    def test_tried_out(self):
        found = {None: 0}
        for seed in range(300):
            device = drawn(seed, 2 + seed % 3, ["b", "a"], ["x", "w"], (0, 25, 45)[seed // 3 % 3], (75, 94)[seed % 2])
            for one in range(len(device)):
                for other in range(len(device)):
                    row = tried_row(device, one, other)
                    self.assertEqual(parting_row(device, one, other), row, (seed, one, other))
                    size = None if row is None else len(row)
                    found[size] = found.get(size, 0) + 1
        for size in (None, 1, 2, 3):
            self.assertGreater(found.get(size, 0), 1)

    def test_order_of_the_buttons_in_the_device(self):
        states = [{"a": (0, []), "b": (0, ["x"]), "c": (0, ["x"])}, {"a": (1, []), "b": (1, []), "c": (1, [])}]
        self.assertEqual(parting_row(Device(["a", "b", "c"], ["x"], states), 0, 1), ["b"])
        self.assertEqual(parting_row(Device(["c", "b", "a"], ["x"], states), 0, 1), ["c"])

    def test_the_length_comes_first(self):
        states = [{"a": (2, []), "z": (0, ["x"])}, {"a": (3, []), "z": (1, [])}, {"a": (2, ["x"])}, {"a": (3, [])}]
        self.assertEqual(parting_row(Device(["a", "z"], ["x"], states), 0, 1), ["z"])

    def test_the_first_row_by_its_first_press(self):
        # Both rows of two presses part 0 and 1: "a" and then "z", "z" and then "a".
        states = [
            {"a": (2, []), "z": (4, [])}, {"a": (3, []), "z": (5, [])},
            {"z": (2, ["x"])}, {"z": (3, [])}, {"a": (4, ["x"])}, {"a": (5, [])},
        ]
        self.assertEqual(parting_row(Device(["a", "z"], ["x"], states), 0, 1), ["a", "z"])
        self.assertEqual(parting_row(Device(["z", "a"], ["x"], states), 0, 1), ["z", "a"])

    def test_the_pair_turned_round_on_the_way(self):
        states = [{"a": (3, [])}, {"a": (2, [])}, {"a": (2, ["x"])}, {"a": (3, [])}]
        device = Device(["a"], ["x"], states)
        self.assertEqual([parting_row(device, 0, 1), parting_row(device, 1, 0)], [["a", "a"], ["a", "a"]])

    def test_harm_in_either_state_bars_a_press(self):
        states = [{"a": (0, ["x"]), "b": (0, [])}, {"b": (1, ["x"])}]
        device = Device(["a", "b"], ["x"], states)
        self.assertEqual([parting_row(device, 0, 1), parting_row(device, 1, 0)], [["b"], ["b"]])
        device = Device(["a"], ["x"], [{"a": (0, ["x"])}, {}])
        self.assertEqual([parting_row(device, 0, 1), parting_row(device, 1, 0)], [None, None])

    def test_one_state_twice(self):
        device = Device(*told())
        for state in range(3):
            self.assertIsNone(parting_row(device, state, state))

    def test_without_buttons_or_lamps(self):
        self.assertIsNone(parting_row(Device([], ["x"], [{}, {}]), 0, 1))
        self.assertIsNone(parting_row(Device(["a"], [], [{"a": (0, [])}, {"a": (0, [])}]), 0, 1))

    def test_longest_rows(self):
        device = counter(20, ["up", "stay"])
        self.assertEqual(parting_row(device, 0, 1), ["up"] * 19)
        self.assertEqual(parting_row(device, 19, 18), ["up"])
        self.assertEqual(parting_row(device, 3, 10), ["up"] * 10)

    def test_wrong_states(self):
        device = Device(*told())
        for wrong in (-1, 3, HUGE, -HUGE):
            assert_raises(self, InvalidState, wrong, parting_row, device, wrong, 0)
            assert_raises(self, InvalidState, wrong, parting_row, device, 0, wrong)
            assert_raises(self, InvalidState, wrong, parting_row, device, wrong, 7)
            assert_raises(self, InvalidState, wrong, parting_row, device, wrong, wrong)
        assert_raises(self, InvalidState, 8, parting_row, device, 8, -3)

    def test_by_name_and_new(self):
        device = counter(5, ["up"])
        self.assertEqual(parting_row(other=1, one=0, device=device), ["up"] * 4)
        assert_fresh(self, lambda: parting_row(device, 0, 1))

    def test_steps(self):
        buttons = list("abcdefgh")
        blind = drawn(5, 20, buttons, [], 0, 0)
        row, steps = steps_of(parting_row, blind, 0, 1)
        self.assertIsNone(row)
        self.assertLess(steps, 190 * STEPS_OF_A_PAIR)
        row, steps = steps_of(parting_row, counter(20, buttons), 0, 1)
        self.assertEqual(row, ["a"] * 19)
        self.assertLess(steps, 190 * STEPS_OF_A_PAIR)


class AlikeStatesTest(unittest.TestCase):
    def check(self, device):
        pairs = [(one, other) for one in range(len(device)) for other in range(one + 1, len(device))]
        wanted = [pair for pair in pairs if parting_row(device, pair[0], pair[1]) is None]
        self.assertEqual(alike_states(device), wanted)
        return len(wanted), len(pairs)

    def test_just_the_pairs_without_a_row(self):
        mixed = 0
        for seed in range(150):
            buttons = ["a", "b", "c"][:1 + seed % 3]
            device = drawn(seed, 2 + seed % 6, buttons, ["x"], (0, 30, 60)[seed % 3], (60, 95)[seed % 2])
            alike, pairs = self.check(device)
            mixed += 0 < alike < pairs
        self.assertGreater(mixed, 30)

    def test_harm_makes_alike_what_does_not_go_together(self):
        # 0 and 1 are alike, 1 and 2 are alike, and 0 and 2 are not.
        states = [{"a": (0, ["x"])}, {}, {"a": (2, [])}]
        self.assertEqual(alike_states(Device(["a"], ["x"], states)), [(0, 1), (1, 2)])

    def test_ends(self):
        self.assertEqual(alike_states(Device([], [], [{}])), [])
        self.assertEqual(alike_states(Device([], [], [{}, {}, {}])), [(0, 1), (0, 2), (1, 2)])
        self.assertEqual(alike_states(counter(20, ["up"])), [])

    def test_by_name_and_new(self):
        device = Device([], [], [{}, {}, {}])
        self.assertEqual(alike_states(device=device), alike_states(device))
        assert_fresh(self, lambda: alike_states(device))
        self.assertEqual({type(pair) for pair in alike_states(device)}, {tuple})

    def test_many_states(self):
        self.check(Device(*wide()))
        self.check(drawn(7, 20, list("abcdefgh"), list("stuvwxyz"), 50, 99))

    def test_steps(self):
        buttons = list("abcdefgh")
        devices = [
            drawn(5, 20, buttons, [], 0, 0), drawn(6, 20, buttons, ["x"], 0, 99), counter(20, buttons),
            drawn(8, 20, buttons, ["x"], 30, 97), Device(buttons, [], [{button: (0, []) for button in buttons}] * 20),
        ]
        for device in devices:
            pairs, steps = steps_of(alike_states, device)
            self.assertLess(steps, 190 * STEPS_OF_A_PAIR)
        self.assertEqual(len(pairs), 190)


class TogetherTest(unittest.TestCase):
    def one(self):
        return Device(["a", "b"], ["x", "y"], [{"a": (1, ["y", "x"])}, {"b": (0, ["y"]), "a": (1, [])}])

    def other(self):
        return Device(["a", "b"], ["x", "y"], [{"b": (2, ["x"])}, {}, {"a": (0, [])}])

    def test_one_device(self):
        self.assertEqual(together([self.one()]), self.one())
        self.assertEqual(groups_of([self.one()]), [[0, 1]])

    def test_several_devices(self):
        device = together([self.one(), self.other(), self.one()])
        self.assertEqual(device.states, [
            [("a", 1, ["x", "y"])], [("a", 1, []), ("b", 0, ["y"])],
            [("b", 4, ["x"])], [], [("a", 2, [])],
            [("a", 6, ["x", "y"])], [("a", 6, []), ("b", 5, ["y"])],
        ])
        self.assertEqual([device.buttons, device.lamps], [["a", "b"], ["x", "y"]])
        self.assertEqual(groups_of([self.one(), self.other(), self.one()]), [[0, 1], [2, 3, 4], [5, 6]])

    def test_the_same_device_twice(self):
        device = Device(*told())
        self.assertEqual(groups_of([device, device]), [[0, 1, 2], [3, 4, 5]])
        self.assertEqual(alike_states(together([device, device])), [(0, 3), (1, 4), (2, 5)])

    def test_four_devices_with_twenty_states(self):
        devices = [counter(7, ["up"]), counter(1, ["up"]), counter(5, ["up"]), counter(7, ["up"])]
        device = together(devices)
        self.assertEqual([len(part) for part in groups_of(devices)], [7, 1, 5, 7])
        self.assertEqual(sum(groups_of(devices), []), list(range(20)))
        self.assertEqual(len(device), 20)
        for part, group in zip(devices, groups_of(devices)):
            for state, moved in enumerate(group):
                after, shown = part.run(state, ["up"] * 20)
                self.assertEqual(device.run(moved, ["up"] * 20), (group[after], shown))

    def test_unlike_devices(self):
        states = [{"a": (0, [])}]
        base = Device(["a", "b"], ["x", "y"], states)
        unlike = [
            Device(["b", "a"], ["x", "y"], states), Device(["a", "b"], ["y", "x"], states),
            Device(["a"], ["x", "y"], states), Device(["a", "b"], ["x"], states),
            Device(["a", "b", "c"], ["x", "y"], states), Device(["a", "b"], ["x", "y", "z"], states),
            Device(["a", "b"], [], states), Device(["a", "c"], ["x", "y"], states),
        ]
        for call in (together, groups_of):
            for wrong in unlike:
                assert_raises(self, UnlikeDevices, 1, call, [base, wrong])
                assert_raises(self, UnlikeDevices, 2, call, [base, base, wrong, wrong])
                assert_raises(self, UnlikeDevices, 3, call, [base, base, base, wrong])
                assert_raises(self, UnlikeDevices, 1, call, [wrong, base, wrong])

    def test_by_name_and_new(self):
        devices = [self.one(), self.other()]
        self.assertEqual(together(devices=devices), together(devices))
        self.assertEqual(groups_of(devices=devices), [[0, 1], [2, 3, 4]])
        assert_fresh(self, lambda: groups_of(devices))
        assert_fresh(self, lambda: together(devices).states)
        self.assertEqual(devices, [self.one(), self.other()])
        device = together(devices)
        devices.clear()
        self.assertEqual(device, together([self.one(), self.other()]))
