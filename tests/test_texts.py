"""Points [2], [4] and [8]: the texts of devices and plans."""

import random
import unittest

from surepresses import texts
from surepresses.devices import Device
from surepresses.plans import plan, total_plan
from surepresses.texts import show_device, show_plan
from tests import oracle, written
from tests.support import assert_by_name, assert_keeps_arguments
from tests.test_devices import told, wide
from tests.test_judges import END, press
from tests.test_plans import long_way
from tests.test_walks import chain


def random_plan(rng, presses):
    """Return a plan with names of any kind and so many presses at most, perhaps a wrong one."""
    if presses == 0 or rng.random() < 0.2:
        return END
    branches = []
    for _ in range(rng.choice([0, 1, 1, 2, 2, 3])):
        answer = rng.choices(["end", "red", "wet", "a", "push", "abcdefgh"], k=rng.choice([0, 0, 1, 1, 2, 3]))
        branches.append((answer, random_plan(rng, presses - 1)))
    return ("press", rng.choice(["end", "push", "press", "z", "abcdefgh"]), branches)


class DeviceTextTest(unittest.TestCase):
    def check(self, device, wanted):
        self.assertEqual(show_device(device), wanted)
        self.assertEqual(written.text_of_device(device), wanted)

    def test_example(self):
        device = Device(["push"], ["red", "wet"], [{"push": (1, ["wet", "red"])}, {}])
        self.assertEqual(show_device(device), "buttons push | lamps red wet | 0: push 1 red wet | 1:")

    def test_nothing_at_all(self):
        self.check(Device([], [], [{}]), "buttons | lamps | 0:")
        self.check(Device([], [], [{}, {}, {}]), "buttons | lamps | 0: | 1: | 2:")
        self.check(Device([], ["red"], [{}]), "buttons | lamps red | 0:")
        self.check(Device(["a", "b"], [], [{}, {"a": (0, [])}]), "buttons a b | lamps | 0: | 1: a 0")

    def test_several_steps(self):
        self.check(
            Device(*told()),
            "buttons push turn | lamps red | 0: push 1, turn 0 red | 1: push 2, turn 1 | 2: push 2 red")
        self.check(
            Device(["c", "a", "b"], ["z", "x", "y"], [
                {"b": (0, ["y", "x", "y"]), "a": (1, []), "c": (1, ["x", "z"])}, {"b": (1, []), "a": (0, ["y"])}]),
            "buttons c a b | lamps z x y | 0: c 1 z x, a 1, b 0 x y | 1: a 0 y, b 1")

    def test_names_that_are_words_of_the_text(self):
        self.check(
            Device(["lamps", "buttons", "end"], ["buttons", "lamps", "end"], [
                {"buttons": (0, ["lamps", "buttons"]), "end": (1, ["end"])}, {"lamps": (1, [])}]),
            "buttons lamps buttons end | lamps buttons lamps end | 0: buttons 0 buttons lamps, end 1 end | 1: lamps 1")

    def test_many_states(self):
        device = Device(*wide())
        self.assertEqual(show_device(device), written.text_of_device(device))
        self.assertEqual(show_device(device)[:51], "buttons h g f e d c b a | lamps p o n m l k j i | 0")
        self.assertIn(" | 19: h 2 p o n, g 1 o n m, ", show_device(device))
        self.check(
            Device(["a"], [], [{"a": ((state + 9) % 20, [])} for state in range(20)]),
            "buttons a | lamps | " + " | ".join(f"{state}: a {(state + 9) % 20}" for state in range(20)))
        self.assertTrue(show_device(Device([], [], [{}] * 100)).endswith(" | 98: | 99:"))

    def test_random_devices(self):
        rng = random.Random(71)
        for _ in range(200):
            device = oracle.random_device(rng, rng.randint(1, 12), rng.randint(0, 4), rng.randint(0, 3), 0.3, 0.4)
            self.assertEqual(show_device(device), written.text_of_device(device))

    def test_arguments(self):
        assert_by_name(self, show_device, ("device", Device(*told())))
        device = Device(*told())
        show_device(device)
        self.assertEqual(device, Device(*told()))
        self.assertEqual(show_device(device), show_device(device))

    def test_functions_are_defined_in_the_file(self):
        for name in ("show_device", "show_plan"):
            self.assertEqual(getattr(texts, name).__module__, "surepresses.texts")


class PlanTextTest(unittest.TestCase):
    def check(self, plan_told, wanted):
        self.assertEqual(show_plan(plan_told), wanted)
        self.assertEqual(written.text_of_plan(plan_told), wanted)

    def test_example(self):
        both = ("press", "push", [([], ("end",)), (["red", "wet"], ("press", "turn", [([], ("end",))]))])
        self.assertEqual(show_plan(both), "push {[] end; [red wet] turn {[] end}}")

    def test_ends_and_presses(self):
        self.check(END, "end")
        self.check(press("push"), "push {}")
        self.check(press("push", ("", END)), "push {[] end}")
        self.check(press("push", ("red", END)), "push {[red] end}")
        self.check(press("push", ("", press("turn"))), "push {[] turn {}}")
        self.check(press("push", ("", press("turn")), ("x", END)), "push {[] turn {}; [x] end}")
        self.check(
            press("a", ("", press("b", ("x", END), ("y", press("c")))), ("x y", press("d", ("", END))), ("y", END)),
            "a {[] b {[x] end; [y] c {}}; [x y] d {[] end}; [y] end}")

    def test_answers(self):
        self.check(press("a", ("z x y", END)), "a {[z x y] end}")
        self.check(press("a", ("y x", END), ("x y", END), ("", END)), "a {[y x] end; [x y] end; [] end}")
        self.check(press("a", ("x x", END), ("x", END)), "a {[x x] end; [x] end}")
        self.check(press("a", ("x", END), ("x", press("b")), ("x", END)), "a {[x] end; [x] b {}; [x] end}")

    def test_names_that_are_words_of_plans(self):
        self.check(press("end"), "end {}")
        self.check(press("end", ("end", END), ("press end", press("end", ("", END)))), (
            "end {[end] end; [press end] end {[] end}}"))
        self.check(press("press", ("press", press("press"))), "press {[press] press {}}")

    def test_many_presses(self):
        for count in (20, 100, 200):
            self.check(chain(count), "low {[ones] " * count + "end" + "}" * count)
        # No depth of a plan is a depth of calls.
        self.assertEqual(show_plan(chain(2000, "a", "")), "a {[] " * 2000 + "end" + "}" * 2000)
        self.check(press("a", *[("x", chain(1, "b", ""))] * 200), "a {" + "; ".join(["[x] b {[] end}"] * 200) + "}")
        case, goal = long_way()
        for made in (plan(case, goal), total_plan(case, goal)):
            self.check(made, written.text_of_plan(made))

    def test_random_plans(self):
        rng = random.Random(72)
        for _ in range(300):
            made = random_plan(rng, 5)
            self.check(made, written.text_of_plan(made))

    def test_lists_that_stand_in_two_places(self):
        same, branches = ["x"], [(["y"], END)]
        inner = ("press", "b", branches)
        self.check(("press", "a", [(same, inner), (same, inner)]), "a {[x] b {[y] end}; [x] b {[y] end}}")
        self.assertEqual([same, branches], [["x"], [(["y"], END)]])

    def test_arguments(self):
        assert_by_name(self, show_plan, ("told", chain(3)))
        assert_keeps_arguments(self, show_plan, press("push", ("", chain(2)), ("red", press("push")), ("x x", END)))
