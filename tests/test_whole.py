"""Points [1], [2] and [10]: what holds of the files of the package together."""

import random
import unittest

from surepresses.cases import Case
from surepresses.devices import Device, alike_states, groups_of, parting_row, together
from surepresses.errors import NoPlan
from surepresses.least import least_buttons, least_lamps
from surepresses.plans import (
    closed, judge_closed, judge_plan, least_depth, least_total, plan, total_plan, walk,
)
from surepresses.readings import read_device, read_plan
from surepresses.rows import closed_rows, is_right_row, least_row, spread
from surepresses.searches import Search, SureSearch
from surepresses.texts import show_device, show_plan
from tests import oracle
from tests.test_guarantees import asked
from tests.test_plans import numbered, small


def answers_from(case, row, state):
    """Return what a row of presses tells from a state, as a list for tell_all."""
    told = []
    for place, button in enumerate(row):
        shining = case.device.run(state, row[:place + 1])[1][-1]
        told.append((button, [lamp for lamp in shining if lamp in case.lamps][::-1]))
    return told


def follow(search, device, lamps, state):
    """Follow the advice of a search on the device itself; return the number of presses to the goal."""
    count = 0
    while not search.is_met:
        button = search.advice()
        state, (shining,) = device.run(state, [button])
        search(button, [lamp for lamp in shining if lamp in lamps])
        count += 1
    return count


class SearchTest(unittest.TestCase):
    """Point [10], with searches."""

    def setUp(self):
        self.asked = asked(51, 50, 4, 3) + asked(52, 40, 3, 3) + asked(53, 20, 5, 2)

    def test_either_a_plan_or_a_closed_list(self):
        count = {True: 0, False: 0}
        for case, goal in self.asked:
            search, made = Search(case, goal), plan(case, goal)
            count[made is None] += 1
            self.assertEqual(search.left(), least_depth(case, goal))
            self.assertEqual(search.is_met, made == ("end",))
            self.assertEqual(search.advice() is None, made in (None, ("end",)))
            if made is None:
                with self.assertRaises(NoPlan) as caught:
                    SureSearch(case, goal)
                self.assertIs(judge_closed(case, goal, caught.exception.value), True)
                self.assertIs(judge_closed(case, goal, closed(case, goal)), True)
            else:
                self.assertIsNone(closed(case, goal))
                self.assertEqual(SureSearch(case, goal).left(), search.left())
        self.assertGreater(min(count.values()), 100)

    def test_the_advice_meets_the_goal_from_each_state(self):
        for case, goal in self.asked:
            least = least_depth(case, goal)
            if least is not None:
                for made in (Search, SureSearch):
                    search = made(case, goal)
                    counts = []
                    for state in case.states:
                        counts.append(follow(search, case.device, case.lamps, state))
                        for _ in range(len(search)):
                            search.undo()
                    self.assertEqual(max(counts), least)
                    self.assertLessEqual(least_total(case, goal), sum(counts))

    def test_right_plans_may_be_told(self):
        count = 0
        for case, goal in self.asked:
            for made in (plan(case, goal), total_plan(case, goal)):
                if made is not None:
                    for state in case.states:
                        count += 1
                        search, sure = Search(case, goal), SureSearch(case, goal)
                        rows = walk(case, made, state)
                        self.assertIn((state, case.device.run(state, [button for button, _ in rows])[0]), sure.tell_all(rows))
                        self.assertEqual(search.tell_all(rows), sure.belief)
                        self.assertEqual([sure.is_met, sure.left(), sure.told], [True, 0, rows])
        self.assertGreater(count, 500)

    def test_right_rows_may_be_told(self):
        count = 0
        for case, goal in self.asked:
            row = least_row(case, goal)
            if row is None:
                self.assertIs(is_right_row(case, goal, []), False)
                continue
            self.assertIsNone(closed_rows(case, goal))
            self.assertLessEqual(Search(case, goal).left(), len(row))
            beliefs = []
            for state in case.states:
                count += 1
                search = Search(case, goal)
                beliefs.append(search.tell_all(answers_from(case, row, state)))
                self.assertEqual([search.is_met, len(search)], [True, len(row)])
            self.assertEqual(sorted(map(tuple, beliefs), key=list), sorted(
                [tuple(belief) for belief in spread(case, row) for _ in belief], key=list))
        self.assertGreater(count, 200)

    def test_without_watched_lamps(self):
        for case, goal in self.asked:
            blind = case.with_lamps([])
            row = least_row(blind, goal)
            search = Search(blind, goal)
            self.assertEqual(search.left(), None if row is None else len(row))
            told = []
            while search.advice() is not None:
                told.append(search.advice())
                search(search.advice(), [])
            if row is not None:
                self.assertIs(is_right_row(blind, goal, told), True)
                self.assertEqual(len(told), len(row))

    def test_more_lamps_and_buttons(self):
        better = 0
        for case, goal in self.asked:
            left = Search(case, goal).left()
            if left is not None:
                for more in (case.with_lamps(None), case.with_buttons(None), case.with_lamps(None).with_buttons(None)):
                    self.assertLessEqual(SureSearch(more, goal).left(), left)
                    better += Search(more, goal).left() < left
        self.assertGreater(better, 0)

    def test_least_sets(self):
        for case, goal in self.asked[::2]:
            for names, sets, changed in (
                    (case.device.lamps, least_lamps(case, goal), case.with_lamps),
                    (case.device.buttons, least_buttons(case, goal), case.with_buttons)):
                for chosen in sets:
                    self.assertIsNotNone(SureSearch(changed(chosen), goal).left())
                    for less in chosen:
                        self.assertRaises(NoPlan, SureSearch, changed([name for name in chosen if name != less]), goal)
                    for more in names:
                        self.assertIsNotNone(SureSearch(changed(chosen + [more]), goal).left())
                if sets == []:
                    self.assertRaises(NoPlan, SureSearch, changed(names), goal)

    def test_plans_that_were_read(self):
        for case, goal in self.asked:
            made = plan(case, goal)
            if made is not None:
                again = read_plan(show_plan(made))
                self.assertIs(judge_plan(case, goal, again), True)
                if made != ("end",):
                    self.assertEqual(again[1], Search(case, goal).advice())
                    self.assertIs(judge_plan(case, ("in", []), again), False)


class TogetherTest(unittest.TestCase):
    """Devices that are put together, shown and read."""

    def all_about(self, device, devices):
        """Return what the package says of a device."""
        groups = groups_of(devices)
        states = [group[0] for group in groups]
        case = Case(device, states)
        goals = [("first",), ("now",), ("group", groups), ("in", groups[0])]
        return [
            device.buttons, device.lamps, device.states, len(device), groups, alike_states(device),
            [[parting_row(device, one, other) for one in range(len(device))] for other in range(len(device))],
            [[ask(case, goal) for ask in (
                least_depth, plan, least_total, total_plan, closed, least_row, closed_rows, least_lamps, least_buttons)]
             for goal in goals],
            [[Search(case, goal).left(), Search(case, goal).advice()] for goal in goals], show_device(device)]

    def test_shown_read_and_put_together_again(self):
        rng = random.Random(61)
        for _ in range(40):
            devices = [oracle.random_device(rng, rng.randint(1, 2), 3, 2, 0.1, 0.5) for _ in range(rng.randint(1, 3))]
            whole = together(devices)
            told = self.all_about(whole, devices)
            again = [read_device(show_device(device)) for device in devices]
            self.assertTrue(again == devices)
            for other in (read_device(show_device(whole)), together(again), read_device(show_device(together(again)))):
                self.assertIs(other == whole, True)
                self.assertEqual(self.all_about(other, again), told)

    def test_of_what_was_put_together(self):
        one, two = numbered(), read_device(show_device(numbered()))
        first = together([one, read_device(show_device(together([two, one])))])
        self.assertEqual(groups_of([one, together([two, one])]), [[0, 1, 2, 3], list(range(4, 12))])
        self.assertEqual(len(first), 12)
        self.assertTrue(read_device(show_device(first)) == together([one, two, one]))
        self.assertEqual(alike_states(first), alike_states(together([one, one, one])))

    def test_which_of_several_devices(self):
        """Point [1]: the presses tell which of several devices it was at the beginning."""
        other = Device(["push", "turn"], ["red"], [{"push": (0, []), "turn": (0, [])}])
        devices = [small(), other]
        whole = read_device(show_device(together(devices)))
        goal = ("group", groups_of(devices))
        case = Case(whole, [0, 1, 3])
        made = plan(case, goal)
        self.assertIs(judge_plan(case, goal, read_plan(show_plan(made))), True)
        search = SureSearch(case, goal)
        self.assertEqual(search.left(), least_depth(case, goal))
        for state in (0, 1, 3):
            rows = walk(case, made, state)
            belief = search.tell_all(rows)
            self.assertEqual({first == 3 for first, _ in belief}, {state == 3})
            for _ in rows:
                search.undo()
