"""Points [2], [3], [4] and [8]: devices and plans are read from their texts."""

import random
import string
import unittest

from surepresses import readings
from surepresses.cases import Case
from surepresses.devices import Device, alike_states, parting_row
from surepresses.errors import Unreadable, WrongPlan
from surepresses.plans import depth, judge_plan, least_depth, plan, total, total_plan, walk
from surepresses.readings import read_device, read_plan
from surepresses.texts import show_device, show_plan
from tests import oracle, written
from tests.support import assert_by_name, assert_fresh, assert_raises, lists_in, spoil
from tests.test_devices import told, wide
from tests.test_judges import END, press
from tests.test_plans import numbered, small
from tests.test_texts import random_plan
from tests.test_walks import chain

# Signs from the space to the tilde, without the percent sign, letters or digits.
SIGNS = [chr(code) for code in range(32, 127) if not chr(code).isalnum() and chr(code) != "%"]


def names(count):
    """Return so many names."""
    letters = string.ascii_lowercase
    return [one + other for one in letters for other in letters][:count]


def around(text):
    """Return all texts with one sign less, doubled, or exchanged or preceded by another sign."""
    found = []
    for place, sign in enumerate(text):
        found.append(text[:place] + text[place + 1:])
        for other in SIGNS + ["0", "5", "A", "a"]:
            found.append(text[:place] + other + text[place:])
            if other != sign:
                found.append(text[:place] + other + text[place + 1:])
    return found + [text + other for other in SIGNS + ["0", "5", "A", "a"]]


class DocumentTest(unittest.TestCase):
    def test_examples(self):
        device = Device(["push"], ["red", "wet"], [{"push": (1, ["wet", "red"])}, {}])
        both = ("press", "push", [([], ("end",)), (["red", "wet"], ("press", "turn", [([], ("end",))]))])
        self.assertEqual(
            [show_device(device), read_device(show_device(device)) == device, show_plan(both),
             read_plan(show_plan(both)) == both, read_plan("end")],
            ["buttons push | lamps red wet | 0: push 1 red wet | 1:", True, "push {[] end; [red wet] turn {[] end}}",
             True, ("end",)])

    def test_functions_are_defined_in_the_file(self):
        for name in ("read_device", "read_plan"):
            self.assertEqual(getattr(readings, name).__module__, "surepresses.readings")


class Reader(unittest.TestCase):
    def unreadable(self, read, *wrong):
        for text in wrong:
            with self.subTest(text[:200]):
                assert_raises(self, Unreadable, text, read, text)


class DeviceTest(Reader):
    def check(self, device):
        text = show_device(device)
        found = read_device(text)
        self.assertIs(type(found), Device)
        self.assertIs(found == device, True)
        self.assertIs(device == found, True)
        self.assertIs(found != device, False)
        self.assertEqual(
            [found.buttons, found.lamps, found.states, len(found)],
            [device.buttons, device.lamps, device.states, len(device)])
        self.assertEqual(show_device(found), text)

    def wrong(self, *wrong):
        self.unreadable(read_device, *wrong)

    def test_devices_of_all_kinds(self):
        self.check(Device([], [], [{}]))
        self.check(Device([], ["red"], [{}, {}]))
        self.check(Device(["push"], [], [{}]))
        self.check(Device(*told()))
        self.check(Device(*wide()))
        self.check(numbered())
        self.check(Device(["lamps", "buttons", "end"], ["buttons", "lamps", "end"], [
            {"buttons": (0, ["lamps", "buttons"]), "end": (1, ["end"])}, {"lamps": (1, [])}]))
        self.check(Device(["abcdefgh"], ["hgfedcba"], [{"abcdefgh": (0, ["hgfedcba"])}]))

    def test_what_was_read_answers_alike(self):
        rng = random.Random(81)
        for _ in range(100):
            device = oracle.random_device(rng, rng.randint(2, 4), 3, 2, 0.2, 0.6)
            found = read_device(show_device(device))
            self.check(device)
            for _ in range(5):
                state, row = rng.randrange(len(device)), rng.choices(device.buttons, k=rng.randrange(6))
                self.assertIs(found.is_safe(state, row), device.is_safe(state, row))
                if found.is_safe(state, row):
                    self.assertEqual(found.run(state, row), device.run(state, row))
            self.assertEqual(alike_states(found), alike_states(device))
            self.assertEqual(parting_row(found, 0, 1), parting_row(device, 0, 1))
            goal = ("group", [[0], list(range(1, len(device)))])
            for ask in (least_depth, plan, total_plan):
                self.assertEqual(ask(Case(found, [0, 1]), goal), ask(Case(device, [0, 1]), goal))
            self.assertTrue(Case(found, [1]) == Case(device, [1]))

    def test_large_devices(self):
        for count in (20, 21, 99, 100):
            self.check(Device(["a", "b"], ["x"], [
                {"a": ((state * 7 + 1) % count, ["x"]), "b": (count - 1 - state, [])} for state in range(count)]))
            self.check(Device([], [], [{}] * count))
        lamps = names(60)
        self.check(Device(names(9), lamps, [{name: (0, lamps) for name in names(9)}]))
        self.check(Device(names(300), names(9), [{name: (1, ["aa", "ai"]) for name in names(300)}, {}]))
        self.check(Device(names(600), names(670), [{"ax": (0, names(670)[::7])}]))
        many = Device(["a"], [], [{"a": (99, [])}] * 100)
        self.assertEqual(read_device(show_device(many)).run(3, ["a"] * 20), (99, [[]] * 20))

    def test_too_many_states(self):
        empty = " | ".join(f"{state}:" for state in range(101))
        self.wrong("buttons | lamps | " + empty, "buttons a | lamps x | " + empty)
        steps = " | ".join(f"{state}: a {state % 100}" for state in range(101))
        self.wrong("buttons a | lamps | " + steps, "buttons a | lamps | " + steps.replace("100: a 0", "100: a 100"))
        more = " | ".join(f"{state}:" for state in range(1200))
        self.wrong("buttons | lamps | " + more)
        self.assertEqual(len(read_device("buttons | lamps | " + empty.replace(" | 100:", ""))), 100)

    def test_the_head(self):
        self.wrong(
            "", " ", "|", " | ", "buttons", "lamps", "buttons | lamps", "buttons | lamps | ", "buttons | lamps |",
            "buttons push | lamps red", "0:", " | 0:", " |  | 0:", "lamps | 0:", "buttons | 0:", "buttons | 0: | 1:",
            "lamps | buttons | 0:", "lamps | lamps | 0:", "buttons | buttons | 0:", "button | lamps | 0:",
            "buttons | lamp | 0:", "Buttons | lamps | 0:", "buttons | LAMPS | 0:", "buttonss | lamps | 0:",
            "buttons | lampss | 0:", "push | lamps | 0:", "buttons | red | 0:", " | lamps | 0:", "buttons |  | 0:",
            "buttonspush | lamps | 0:", "buttons | lampsred | 0:", "buttons | lamps | lamps | 0:",
            "push buttons | lamps | 0:", "buttons | red lamps | 0:", "x buttons | lamps | 0:", "buttons, | lamps | 0:",
            "buttons: push | lamps | 0:", "buttons push, turn | lamps | 0:", "buttons | lamps red, wet | 0:", "end")

    def test_blanks_and_bars(self):
        self.wrong(
            " buttons | lamps | 0:", "buttons | lamps | 0: ", "buttons  | lamps | 0:", "buttons |  lamps | 0:",
            "buttons| lamps | 0:", "buttons |lamps | 0:", "buttons | lamps|0:", "buttons | lamps | 0:| 1:",
            "buttons | lamps | 0: |1:", "buttons | lamps |  0:", "buttons | lamps | 0: |", "buttons | lamps | 0: | ",
            "buttons || lamps | 0:", "buttons | lamps || 0:", "buttons | lamps | | 0:", "| buttons | lamps | 0:",
            "buttons  push | lamps | 0:", "buttons push  | lamps | 0:", "buttons push  turn | lamps | 0:",
            "buttons push | lamps | 0:  push 0", "buttons push | lamps | 0:push 0", "buttons push | lamps | 0: push  0",
            "buttons push | lamps | 0: push 0 ", "buttons push | lamps red | 0: push 0  red",
            "buttons push | lamps red | 0: push 0 red ", "buttons push | lamps red | 0 : push 0 red",
            "buttons push | lamps | 0: push0", "buttons push | lamps red | 0: push 0red",
            "buttons a b | lamps | 0: a 0 , b 0", "buttons a b | lamps | 0: a 0,b 0", "buttons a b | lamps | 0: a 0,  b 0")

    def test_commas_and_colons(self):
        self.wrong(
            "buttons a b | lamps | 0: a 0, b 0,", "buttons a b | lamps | 0:, a 0, b 0",
            "buttons a b | lamps | 0: a 0,, b 0", "buttons a b | lamps | 0: a 0, , b 0", "buttons a b | lamps | 0: a 0 b 0",
            "buttons a b | lamps | 0: a, 0, b 0", "buttons a b | lamps | 0: a 0; b 0", "buttons a | lamps x | 0: a 0, x",
            "buttons a | lamps | 0 a 0", "buttons a | lamps | 0:: a 0", "buttons a | lamps | :0 a 0",
            "buttons a | lamps | 0; a 0", "buttons a | lamps | 0", "buttons a | lamps | :", "buttons a | lamps | 0:,",
            "buttons a | lamps | 0: a 0:", "buttons a | lamps | 0: a: 0", "buttons a | lamps | 0:: ",
            "buttons: | lamps | 0:", "buttons | lamps: | 0:")

    def test_names(self):
        for name in ("Push", "PUSH", "push1", "1", "a_b", "abcdefghi", "pu-sh", "pu.sh", "{", "~", "[]", "", "a'b"):
            self.wrong(
                f"buttons {name} | lamps | 0:", f"buttons | lamps {name} | 0:", f"buttons a {name} | lamps | 0:",
                f"buttons {name} | lamps | 0: {name} 0", f"buttons a | lamps {name} | 0: a 0 {name}",
                f"buttons a | lamps x | 0: a 0 {name}", f"buttons a | lamps x | 0: {name} 0")
        self.wrong(
            "buttons a a | lamps | 0:", "buttons | lamps x x | 0:", "buttons a b a | lamps | 0: a 0",
            "buttons | lamps x y x | 0:", "buttons a b b | lamps a b | 0:")
        for text in ("buttons a | lamps a | 0: a 0 a", "buttons a b | lamps b a | 0: a 0 b a, b 0"):
            self.assertEqual(show_device(read_device(text)), text)

    def test_indexes_of_states(self):
        self.wrong(
            "buttons | lamps | 1:", "buttons | lamps | 00:", "buttons | lamps | 0: | 0:", "buttons | lamps | 0: | 2:",
            "buttons | lamps | 0: | 01:", "buttons | lamps | 1: | 0:", "buttons | lamps | -0:", "buttons | lamps | +0:",
            "buttons | lamps | 0: | 1: | 1:", "buttons | lamps | 0: | 1: | 3:", "buttons | lamps | a:", "buttons | lamps | 0x:",
            "buttons | lamps | 0: | one:", "buttons | lamps | 000:", "buttons | lamps | 0: | 1 2:", "buttons | lamps | 0 0:")

    def test_next_states(self):
        for after in (
                "2", "9", "10", "99", "00", "01", "001", "100", "000", "-1", "+1", "1.", "1_0", "0x1", "a", "", "1a", "a1",
                "123456789", "9" * 59, "0" * 400, "9" * 6000):
            self.wrong(
                f"buttons a | lamps | 0: a {after} | 1:", f"buttons a | lamps x | 0: a {after} x | 1:",
                f"buttons a b | lamps x | 0: b 1 | 1: a 0, b {after} x")
        for after in ("0", "1"):
            text = f"buttons a | lamps | 0: a {after} | 1:"
            self.assertEqual(read_device(text).states, [[("a", int(after), [])], []])
        twelve = "buttons a | lamps | " + " | ".join(f"{state}: a 11" for state in range(12))
        self.assertEqual(read_device(twelve).run(4, ["a"]), (11, [[]]))
        self.wrong(twelve.replace("a 11", "a 12", 1), twelve.replace("a 11", "a 011", 1), twelve.replace("a 11", "a 1 1", 1))

    def test_steps(self):
        self.wrong(
            "buttons a b | lamps | 0: b 0, a 0", "buttons a b | lamps | 0: a 0, a 0", "buttons a b | lamps | 0: a 0, b 0, a 0",
            "buttons b a | lamps | 0: a 0, b 0", "buttons a | lamps | 0: b 0", "buttons a | lamps a b | 0: b 0",
            "buttons | lamps | 0: a 0", "buttons a | lamps | 0: a", "buttons a | lamps | 0: 0", "buttons a | lamps | 0: a a 0",
            "buttons a b | lamps | 0: a b 0", "buttons a b | lamps | 0: a, b 0", "buttons a b | lamps | 0: a 0, b",
            "buttons a b | lamps | 0: a 0, 0", "buttons a b c | lamps | 0: a 0, c 0, b 0", "buttons a | lamps | 0: 0 a")

    def test_lamps_of_steps(self):
        self.wrong(
            "buttons a | lamps x y | 0: a 0 y x", "buttons a | lamps x y | 0: a 0 x x", "buttons a | lamps x y | 0: a 0 z",
            "buttons a | lamps x y | 0: a 0 x y x", "buttons a | lamps x y | 0: a 0 a", "buttons a | lamps | 0: a 0 x",
            "buttons a | lamps x y z | 0: a 0 x z y", "buttons a | lamps y x | 0: a 0 x y", "buttons a | lamps x | 0: a 0 0",
            "buttons a | lamps x | 0: x a 0", "buttons a | lamps x | 0: a x 0", "buttons a | lamps x | 0: x")

    def test_all_texts_around(self):
        device = Device(["a", "bc"], ["x", "yz"], [{"a": (1, ["x", "yz"]), "bc": (0, [])}, {"bc": (1, ["yz"])}])
        count = 0
        for text in around(show_device(device)) + around("buttons | lamps | 0:"):
            found = written.device_of(text)
            if found is None:
                with self.assertRaises(Unreadable, msg=text) as caught:
                    read_device(text)
                self.assertEqual(caught.exception.value, text)
            else:
                count += 1
                self.assertTrue(read_device(text) == found)
                self.assertEqual(show_device(read_device(text)), text)
        self.assertGreater(count, 0)

    def test_edited_texts(self):
        rng = random.Random(82)
        count = {True: 0, False: 0}
        for _ in range(3000):
            device = oracle.random_device(rng, rng.randint(1, 3), rng.randint(0, 3), rng.randint(0, 2), 0.3, 0.5)
            text = written.edited(rng, show_device(device))
            found = written.device_of(text)
            count[found is None] += 1
            if found is None:
                assert_raises(self, Unreadable, text, read_device, text)
            else:
                self.assertTrue(read_device(text) == found)
                self.assertEqual(show_device(read_device(text)), text)
        self.assertGreater(min(count.values()), 100)

    def test_plans_are_no_devices(self):
        self.wrong("end", "push {}", "push {[] end}", "buttons {[] end}")

    def test_what_is_read_is_new(self):
        text = show_device(small())
        assert_by_name(self, read_device, ("text", text))
        assert_fresh(self, lambda: [read_device(text).buttons, read_device(text).states])
        found = read_device(text)
        spoil(found.states)
        spoil(found.buttons)
        self.assertTrue(found == small())


class PlanTest(Reader):
    def check(self, made):
        text = show_plan(made)
        found = read_plan(text)
        self.assertEqual(found, made)
        self.assertEqual(show_plan(found), text)
        self.kinds(found)
        places = lists_in(found)
        self.assertEqual(len({id(place) for place in places}), len(places))

    def kinds(self, found):
        self.assertIs(type(found), tuple)
        if found != END:
            self.assertEqual([len(found), found[0], type(found[1]), type(found[2])], [3, "press", str, list])
            for branch in found[2]:
                self.assertEqual([type(branch), len(branch), type(branch[0])], [tuple, 2, list])
                self.kinds(branch[1])

    def wrong(self, *wrong):
        self.unreadable(read_plan, *wrong)

    def test_plans_of_all_kinds(self):
        self.check(END)
        self.check(press("push"))
        self.check(press("push", ("", END)))
        self.check(press("push", ("", END), ("red", END), ("red wet", press("turn"))))
        self.check(press("a", ("", press("b", ("x", END), ("y", press("c")))), ("x y", press("d", ("", END))), ("y", END)))
        self.check(press("abcdefgh", ("abcdefgh hgfedcba", END)))

    def test_wrong_plans(self):
        self.check(press("a", ("y x", END), ("x y", END), ("", END)))
        self.check(press("a", ("x x", END), ("x", END), ("x", press("b")), ("x", END)))
        self.check(press("a", ("", press("a")), ("", press("a", ("", press("a"))))))
        self.check(press("none", ("b a a b", END), ("none", press("none"))))

    def test_names_that_are_words_of_plans(self):
        self.check(press("end"))
        self.check(press("end", ("end", END), ("press end", press("end", ("", END))), ("end end", press("end"))))
        self.check(press("press", ("press", press("press"))))
        self.assertEqual(read_plan("end {[end] end {}}"), press("end", ("end", press("end"))))
        self.wrong("end {", "end }", "end {}}", "end{}", "end {} end", "end {end}", "end {[end]}", "press", "ends", "en")

    def test_found_plans(self):
        rng = random.Random(83)
        count = 0
        for case in oracle.random_cases(83, 60, 4, 3):
            for goal in oracle.goals_of(case, rng):
                for made in (plan(case, goal), total_plan(case, goal)):
                    if made is not None:
                        count += made != END
                        self.check(made)
                        self.assertIs(judge_plan(case, goal, read_plan(show_plan(made))), True)
                        self.assertEqual(total(case, read_plan(show_plan(made))), total(case, made))
        self.assertGreater(count, 50)

    def test_random_plans(self):
        rng = random.Random(84)
        for _ in range(300):
            self.check(random_plan(rng, 5))

    def test_empty_and_cut_off(self):
        self.wrong("", " ", "e", "en", "{", "}", "{}", "[]", "[] end", ";", "; ", "push", "push ", "end ", " end", "END", "End")
        text = "push {[] end; [red wet] turn {[] end; [x] end {}}}"
        self.assertEqual(show_plan(read_plan(text)), text)
        for place in range(len(text)):
            self.wrong(text[:place])
            if place > 6:
                self.wrong(text[place:])

    def test_text_behind_the_end(self):
        for text in ("end", "push {}", "push {[] end}"):
            for behind in (" ", "}", "{", "]", "[", ";", "; ", "end", " end", "; [] end", " {", "; [red] end", "[] end"):
                if text + behind != "end {}":
                    self.wrong(text + behind)
        self.wrong("push {} {}", "end {} {}", "push {}{}", "push {[] end} {}", "push {[] end}}", "end; end", "end end")

    def test_braces_and_brackets(self):
        self.wrong(
            "push {[] end", "push [] end}", "push {{[] end}", "push {[] end}}", "push {{[] end}}", "push }[] end{",
            "push {[] {end}}", "push {[ end}", "push {] end}", "push {[[] end}", "push {[]] end}", "push {[[]] end}",
            "push {][ end}", "push { end}", "push {end}", "push {[] }", "push {[]}", "push {[red}", "push {red] end}",
            "push {[red end}", "push {[red] [] end}", "push {[red] [wet] end}", "push [{] end}", "push {[]} end", "push () end",
            "push {[] turn}", "push {[] turn {}", "push {[] turn {[] end}", "push {[] turn }}", "push {[] turn {}}}",
            "push {[{] end}", "push {[}] end}", "push {[red{] end}", "push {[] end{}", "push {[] end{}}", "push {(red) end}")

    def test_semicolons(self):
        self.wrong(
            "push {[] end [red] end}", "push {[] end, [red] end}", "push {[] end;; [red] end}", "push {[] end; ; [red] end}",
            "push {; [] end}", "push {[] end;}", "push {[] end; }", "push {;}", "push {; }", "push {[] end}; ",
            "push {[] end;[red] end}", "push {[] end ;[red] end}", "push {[] end ; [red] end}", "push {[] end;  [red] end}",
            "push {[]; [red] end}", "push {[] ; end}", "push {[red; wet] end}", "push {[] turn {}[red] end}",
            "push {[] turn {} [red] end}", "push {[] turn {};[red] end}", "push {[] turn {; }}", "push; {[] end}")

    def test_blanks(self):
        self.wrong(
            "push{[] end}", "push  {[] end}", " push {[] end}", "push {[] end} ", "push { [] end}", "push {[] end }",
            "push {[ ] end}", "push {[]end}", "push {[]  end}", "push {[ red] end}", "push {[red ] end}", "push {[red  wet] end}",
            "push {[red]end}", "push {[red]  end}", "push {[red,wet] end}", "push { }", "push {} ", "push  {}",
            "push {[] turn{}}", "push {[] turn  {}}", "push {[] turn {} }", "pu sh {}", "push turn {}", "push {[] turn push {}}")

    def test_names(self):
        for name in ("Push", "PUSH", "push1", "1", "a_b", "abcdefghi", "pu-sh", "pu.sh", "~", "", "(", "pu:sh", "|", '"a"'):
            self.wrong(
                name, f"{name} {{}}", f"{name} {{[] end}}", f"push {{[] {name} {{}}}}", f"push {{[] {name}}}",
                f"push {{[red {name}] end}}", f"push {{[{name} red] end}}", f"push {{[] end; [{name} x] end}}")
            if name:
                self.wrong(f"push {{[{name}] end}}", f"push {{[{name}] turn {{}}}}", f"push {{[] turn {{[{name}] end}}}}")

    def test_all_texts_around(self):
        count = 0
        for text in ("a {[] end; [x yz] bc {[x] end {}}}", "end", "a {}", "end {[end] end}"):
            for other in around(text):
                found = written.plan_of(other)
                if found is None:
                    with self.assertRaises(Unreadable, msg=other) as caught:
                        read_plan(other)
                    self.assertEqual(caught.exception.value, other)
                else:
                    count += 1
                    self.assertEqual(read_plan(other), found)
        self.assertGreater(count, 20)

    def test_edited_texts(self):
        rng = random.Random(85)
        count = {True: 0, False: 0}
        for _ in range(4000):
            text = written.edited(rng, show_plan(random_plan(rng, 4)))
            found = written.plan_of(text)
            count[found is None] += 1
            if found is None:
                assert_raises(self, Unreadable, text, read_plan, text)
            else:
                self.assertEqual(read_plan(text), found)
        self.assertGreater(min(count.values()), 300)

    def test_devices_are_no_plans(self):
        self.wrong(show_device(small()), "buttons | lamps | 0:")

    def test_what_is_read_is_new(self):
        text = "push {[] turn {[] end; [red] end}; [red] turn {[] end; [red] end}; [red] end}"
        assert_by_name(self, read_plan, ("text", text))
        assert_fresh(self, lambda: read_plan(text))
        assert_fresh(self, lambda: [read_plan(text), read_plan("end"), read_plan("push {}"), read_plan("push {}")])
        one, other = read_plan(text), read_plan(text)
        spoil(one)
        self.assertEqual(show_plan(other), text)


class LongPlanTest(Reader):
    """Plans with many presses, on a way and in all."""

    def text_of(self, count, button="low", answer="ones", end="end"):
        return f"{button} {{[{answer}] " * count + end + "}" * count

    def test_presses_on_a_way(self):
        for count in (1, 20, 99, 100):
            text = self.text_of(count)
            found = read_plan(text)
            self.assertTrue(found == chain(count))
            self.assertEqual([show_plan(found), depth(found)], [text, count])
            self.assertEqual(len(lists_in(found)), 2 * count)
        self.assertEqual(depth(read_plan(self.text_of(99, end="low {}"))), 100)
        for count in (101, 102, 150, 300, 1200, 2600):
            for answer in ("", "x"):
                self.unreadable(read_plan, self.text_of(count, "a", answer))
        self.unreadable(
            read_plan, self.text_of(100, end="low {}"), self.text_of(2600, "a", "", "")[:15600], "a {[] " * 3000,
            self.text_of(100) + "}", self.text_of(100)[:-1], "}" * 20000, "[" * 20000, "a {" * 6000, "a {[] end; " * 1800)

    def test_a_long_way_among_short_ones(self):
        for count in (99, 100):
            text = f"low {{[] end; [ones] {self.text_of(count)}; [twos] {self.text_of(3)}}}"
            if count == 99:
                self.assertEqual([depth(read_plan(text)), show_plan(read_plan(text))], [100, text])
            else:
                self.unreadable(read_plan, text)
        text = "a {[] " + self.text_of(99, "b", "") + "; [x] " + self.text_of(99, "c", "") + "}"
        self.assertEqual([depth(read_plan(text)), show_plan(read_plan(text))], [100, text])

    def test_many_presses_in_all(self):
        inner = "; ".join(["[x] b {[] end; [y] c {}}"] * 300)
        text = f"a {{{inner}}}"
        found = read_plan(text)
        self.assertEqual(len(found[2]), 300)
        self.assertEqual(found, press("a", *[("x", press("b", ("", END), ("y", press("c"))))] * 300))
        self.assertEqual(len({id(place) for place in lists_in(found)}), len(lists_in(found)))
        self.assertEqual([show_plan(found), depth(found)], [text, 3])
        wide_text = "a {" + "; ".join(["[] end"] * 2000) + "}"
        self.assertEqual([len(read_plan(wide_text)[2]), show_plan(read_plan(wide_text))], [2000, wide_text])
        ways = "; ".join([f"[x] {self.text_of(60, 'b', '')}"] * 10)
        self.assertEqual(depth(read_plan(f"a {{{ways}}}")), 61)
        self.assertEqual(show_plan(read_plan(f"a {{{ways}}}")), f"a {{{ways}}}")

    def test_answers_about_long_plans(self):
        case = Case(numbered(), [3, 1])
        found = read_plan(self.text_of(100))
        self.assertEqual(depth(found), 100)
        for state in (1, 3):
            self.assertEqual(walk(case, found, state), [("low", ["ones"])] * 100)
        self.assertEqual(total(case, found), 200)
        self.assertIs(judge_plan(case, ("group", [[1, 3]]), found), True)
        self.assertIs(judge_plan(case, ("first",), found), False)
        self.assertIs(judge_plan(Case(numbered(), [3]), ("first",), found), True)
        other = read_plan(self.text_of(99, end="low {[] end}"))
        assert_raises(self, WrongPlan, 100, total, case, other)
        self.assertIs(judge_plan(case, ("group", [[1, 3]]), other), False)
        ending = read_plan(self.text_of(99, end="high {[] end; [twos] end}"))
        self.assertIs(judge_plan(case, ("first",), ending), True)
        self.assertEqual([total(case, ending), walk(case, ending, 3)[-1]], [200, ("high", ["twos"])])
