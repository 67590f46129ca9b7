"""Points [2], [3], [5], [6] and [8]: live searches."""

import random
import unittest

from surepresses.cases import Case
from surepresses.devices import Device
from surepresses.errors import Harmful, ImpossibleAnswer, InvalidGoal, NoPlan, NothingToUndo, UnknownButton
from surepresses.plans import closed, judge_closed, least_depth
from surepresses.searches import Search, SureSearch
from tests import oracle
from tests.support import (
    assert_by_name, assert_fresh, assert_goal_errors, assert_keeps_arguments, assert_raises, lists_in, spoil, steps_of,
)
from tests.test_plans import long_way, mixing, numbered, small

BOTH = (Search, SureSearch)


def small_search(made=Search, goal=("first",), **more):
    """Return a search on the device of the document's examples."""
    return made(Case(small(), [0, 1, 2], **more), goal)


def seen(search):
    """Return all that a search tells."""
    return [search.belief, search.told, search.is_met, len(search), search.left(), search.advice()]


def assert_refused(test, search, error, value, call, *args):
    """A call of a search raises just this error and changes nothing."""
    before = seen(search)
    assert_raises(test, error, value, call, *args)
    test.assertEqual(seen(search), before)


class DocumentTest(unittest.TestCase):
    def test_examples(self):
        device = Device(["push", "turn"], ["red"], [
            {"push": (1, []), "turn": (0, ["red"])}, {"push": (2, []), "turn": (1, [])}, {"push": (2, ["red"])}])
        search = Search(Case(device, [0, 1, 2]), ("first",))
        self.assertEqual(
            [search.left(), search.advice(), search("push", []), search.left(), search.advice(),
             search("push", ["red"]), search.is_met, search.undo(), search.told, len(search)],
            [2, "push", [(0, 1), (1, 2)], 1, "push", [(1, 2)], True, None, [("push", [])], 1])
        small_case = Case(device, [0, 1], buttons=["turn"])
        sure = SureSearch(small_case, ("first",))
        self.assertEqual(
            [sure == Search(small_case, ("first",)), sure == SureSearch(small_case, ("first",)),
             sure.tell_all([("turn", ["red"])]), sure.is_met],
            [False, True, [(0, 0)], True])

    def test_listed_names_stand_in_the_class_itself(self):
        for name in (
                "__init__", "__call__", "belief", "told", "is_met", "left", "advice", "undo", "tell_all", "__len__",
                "__eq__"):
            self.assertIn(name, vars(Search))
        for name in ("__init__", "__call__", "tell_all"):
            self.assertIn(name, vars(SureSearch))
        self.assertEqual(SureSearch.__bases__, (Search,))
        for made in BOTH:
            self.assertEqual(made.__module__, "surepresses.searches")

    def test_a_sure_search_is_a_search(self):
        self.assertIsInstance(small_search(SureSearch), Search)
        self.assertNotIsInstance(small_search(), SureSearch)


class GoalTest(unittest.TestCase):
    def test_wrong_goals(self):
        for made in BOTH:
            assert_goal_errors(self, made)

    def test_an_invalid_goal_ahead_of_no_plan(self):
        case = Case(small(), [0, 1, 2], buttons=[])
        for goal in (("in", [3]), ("group", [[0, 1]]), ("none",)):
            assert_raises(self, InvalidGoal, goal, SureSearch, case, goal)
        self.assertRaises(NoPlan, SureSearch, case, ("first",))

    def test_what_is_done_to_the_goal_has_no_effect(self):
        for made in BOTH:
            for goal, kept in (
                    (("in", [2]), ("in", [2])), (("group", [[2, 0], [1, 9]]), ("group", [[2, 0], [1, 9]]))):
                search, same = small_search(made, goal), small_search(made, kept)
                self.assertEqual(goal, kept)
                spoil(goal)
                for rows in ([], [("push", [])], [("push", ["red"])]):
                    search.tell_all(rows)
                    same.tell_all(rows)
                    self.assertEqual(seen(search), seen(same))
                    self.assertTrue(search == same)

    def test_each_kind_of_goal(self):
        case = Case(numbered(), [0, 1, 2, 3])
        for made in BOTH:
            for goal, left, button in (
                    (("first",), 1, "both"), (("now",), 1, "both"), (("group", [[0, 2], [1, 3]]), 1, "both"),
                    (("group", [[0, 1, 2, 3]]), 0, None), (("in", [0, 1, 2, 3]), 0, None)):
                search = made(case, goal)
                self.assertEqual(seen(search), [case.start, [], left == 0, 0, left, button])
                self.assertEqual(seen(made(goal=goal, case=case)), seen(search))


class CallTest(unittest.TestCase):
    def test_the_belief_after_the_press_and_the_answer(self):
        for made in BOTH:
            search = made(Case(numbered(), [0, 1, 2, 3]), ("first",))
            self.assertEqual(search("low", ["ones"]), [(1, 1), (3, 3)])
            self.assertEqual(search.belief, [(1, 1), (3, 3)])
            self.assertEqual(search("high", []), [(1, 1)])
            self.assertEqual(search("dark", []), [(1, 0)])
            self.assertEqual(search.told, [("low", ["ones"]), ("high", []), ("dark", [])])
            self.assertEqual([search.belief, len(search)], [[(1, 0)], 3])

    def test_kinds_of_values(self):
        search = small_search()
        found = search("push", [])
        self.assertEqual([type(found), {type(entry) for entry in found}], [list, {tuple}])
        self.assertEqual(
            [type(value) for value in seen(search)], [list, list, bool, int, int, str])
        self.assertEqual([type(search.told[0]), type(search.told[0][1])], [tuple, list])
        search("push", [])
        self.assertEqual([search.is_met, search.left(), search.advice()], [True, 0, None])
        self.assertIs(type(search.left()), int)

    def test_lamps_in_any_order_and_twice(self):
        for made in BOTH:
            for answer in (
                    ["ones", "twos"], ["twos", "ones"], ["twos", "ones", "twos"], ["ones", "ones", "twos", "twos"]):
                search, other = [made(Case(numbered(), [0, 1, 2, 3]), ("first",)) for _ in range(2)]
                self.assertEqual(search("both", answer), [(3, 3)])
                self.assertEqual(search.told, [("both", ["ones", "twos"])])
                self.assertEqual(other.tell_all([("low", ["ones"] * 3), ("both", answer)]), [(3, 3)])
                self.assertEqual(other.told, [("low", ["ones"]), ("both", ["ones", "twos"])])

    def test_lamps_in_the_order_of_the_device(self):
        device = Device(["a"], ["z", "x", "y"], [{"a": (0, ["x", "y", "z"])}, {"a": (1, ["y", "z"])}])
        search = Search(Case(device, [0, 1]), ("first",))
        search("a", ["x", "y", "z"])
        self.assertEqual(search.told, [("a", ["z", "x", "y"])])
        search = Search(Case(device, [0, 1], lamps=["y", "x"]), ("first",))
        search("a", ["y", "x", "y"])
        self.assertEqual(search.told, [("a", ["x", "y"])])

    def test_buttons_that_are_not_usable(self):
        for made in BOTH:
            search = small_search(made, buttons=["push"])
            search("push", [])
            for button in ("turn", "pull", "", "red", "PUSH", "push ", "~"):
                for answer in ([], ["red"], ["none"]):
                    assert_refused(self, search, UnknownButton, button, search, button, answer)
                    assert_refused(self, search, UnknownButton, button, search.tell_all, [(button, answer)])

    def test_harmful_buttons(self):
        for made in BOTH:
            search = small_search(made)
            for answer in ([], ["red"], ["none"]):
                assert_refused(self, search, Harmful, "turn", search, "turn", answer)
                assert_refused(self, search, Harmful, "turn", search.tell_all, [("turn", answer)])
            search("push", [])
            assert_refused(self, search, Harmful, "turn", search, "turn", [])
        search.undo()
        self.assertEqual(Search(Case(small(), [0, 1]), ("first",))("turn", ["red"]), [(0, 0)])

    def test_impossible_answers(self):
        for made in BOTH:
            search = made(Case(numbered(), [0, 1, 2]), ("first",))
            for answer in (
                    ["ones", "twos"], ["twos", "ones", "twos"], ["pink"], ["ones", "pink"], ["ones", "low"], [""],
                    ["ONES"], ["ones "], ["~"], ["both"], ["one", "s"]):
                assert_refused(self, search, ImpossibleAnswer, answer, search, "both", answer)
                assert_refused(self, search, ImpossibleAnswer, answer, search.tell_all, [("both", answer)])
            assert_refused(self, search, ImpossibleAnswer, ["twos"], search, "low", ["twos"])
            search("low", ["ones"])
            assert_refused(self, search, ImpossibleAnswer, [], search, "low", [])
            assert_refused(self, search, ImpossibleAnswer, ["ones", "ones", "twos"], search, "both", [
                "ones", "ones", "twos"])

    def test_lamps_that_are_not_watched(self):
        for made in BOTH:
            search = made(Case(numbered(), [0, 1, 2, 3], lamps=["twos"]), ("group", [[0, 1], [2, 3]]))
            for answer in (["ones"], ["ones", "twos"], ["twos", "pink"]):
                assert_refused(self, search, ImpossibleAnswer, answer, search, "both", answer)
            self.assertEqual(search("both", ["twos"]), [(2, 2), (3, 3)])

    def test_the_stored_answer_is_a_copy(self):
        search = small_search()
        answer = ["red", "none", "red"]
        with self.assertRaises(ImpossibleAnswer) as caught:
            search("push", answer)
        answer.clear()
        self.assertEqual(caught.exception.value, ["red", "none", "red"])
        rows = [("push", []), ("push", ["x", "x"])]
        with self.assertRaises(ImpossibleAnswer) as caught:
            search.tell_all(rows)
        self.assertIsNot(caught.exception.value, rows[1][1])
        spoil(rows)
        self.assertEqual(caught.exception.value, ["x", "x"])

    def test_presses_behind_a_met_goal(self):
        search = small_search(goal=("in", [1, 2]))
        self.assertEqual(search("push", []), [(0, 1), (1, 2)])
        self.assertEqual(seen(search)[2:], [True, 1, 0, None])
        self.assertEqual(search("push", []), [(0, 2)])
        self.assertEqual(seen(search)[2:], [True, 2, 0, None])
        stuck = Search(Case(small(), [0]), ("in", [1]))
        self.assertEqual([stuck.left(), stuck.advice()], [1, "push"])
        self.assertEqual(stuck("push", []), [(0, 1)])
        self.assertEqual(seen(stuck)[2:], [True, 1, 0, None])
        self.assertEqual(stuck("push", []), [(0, 2)])
        self.assertEqual(seen(stuck)[2:], [False, 2, None, None])
        stuck.undo()
        self.assertEqual(seen(stuck)[2:], [True, 1, 0, None])


class AdviceTest(unittest.TestCase):
    def test_none_where_there_is_no_plan(self):
        for search in (
                small_search(lamps=[]), small_search(buttons=["turn"]), small_search(buttons=[]),
                small_search(goal=("in", []))):
            self.assertEqual(seen(search)[2:], [False, 0, None, None])
        search = Search(Case(small(), [0, 1]), ("in", [0, 1]))
        self.assertEqual(seen(search)[2:], [True, 0, 0, None])
        search("push", [])
        self.assertEqual(seen(search)[2:], [False, 1, None, None])

    def test_the_first_of_several_buttons(self):
        goal = ("group", [[0, 2], [1, 3]])
        for names in (["both", "low", "high", "dark"], ["low", "high", "dark"], ["high", "both"], ["high", "low"]):
            search = Search(Case(numbered(), [0, 1, 2, 3], buttons=names), goal)
            self.assertEqual([search.left(), search.advice()], [1, "both" if "both" in names else "low"])
        for names in (["b", "a", "c"], ["c", "b", "a"], ["a", "c", "b"]):
            steps = {"a": (0, []), "b": (0, []), "c": (1, [])}
            # Both a and b end all at once, c does not.
            device = Device(names, [], [dict(steps), dict(steps)])
            search = Search(Case(device, [0, 1]), ("in", [0]))
            self.assertEqual([search.left(), search.advice()], [1, [name for name in names if name != "c"][0]])

    def test_the_least_depth_from_the_belief_now(self):
        case, goal = long_way()
        search = Search(case, goal)
        self.assertEqual([search.left(), search.advice()], [29, search.advice()])
        for left in range(29, 0, -1):
            self.assertEqual(search.left(), left)
            button = search.advice()
            # The answer after which most is left.
            branches = case.next_beliefs(search.belief, button)
            lefts = []
            for answer, _ in branches:
                search(button, answer)
                lefts.append(search.left())
                search.undo()
            self.assertEqual(max(lefts), left - 1)
            search(button, branches[lefts.index(left - 1)][0])
        self.assertEqual(seen(search)[2:], [True, 29, 0, None])

    def test_in_either_order_and_twice(self):
        for made in BOTH:
            one, two, three = [small_search(made) for _ in range(3)]
            for rows, left, button in (([], 2, "push"), ([("push", [])], 1, "push"), ([("push", [])], 0, None)):
                for search in (one, two, three):
                    search.tell_all(rows)
                self.assertEqual([one.left(), one.advice(), one.left(), one.advice()], [left, button] * 2)
                self.assertEqual([two.advice(), two.left(), two.advice(), two.left()], [button, left] * 2)
            # The third one was not asked before.
            self.assertEqual([three.left(), three.advice()], [0, None])
            three.undo()
            self.assertEqual([three.advice(), three.left()], ["push", 1])
            three.undo()
            self.assertEqual([three.left(), three.advice()], [2, "push"])

    def test_what_was_asked_before_has_no_effect(self):
        # Behind a met goal there are beliefs that were not looked at before, and lead to many that were.
        asked = [
            ([1, 3], [4, 2], ["0 3y 0y", "4y 2y 0", "2y 3 3y", "1 4y 0y", "2y 2 4"], "b", ["y"], "b", []),
            ([2, 4], [1, 4], ["1 2 4", "0 1 3", "4 4 2", "3 2 3", "1 0 4"], *"d[c[b[b[b[c[b[b["),
            ([2, 4], [1, 4], ["1 2 4", "0 1 3", "4 4 2", "3 2 3", "1 0 4"], *"b[b[d[d[d[d[c[d[c[b["),
            ([3, 4], [4, 3], ["4 2 1 4", "3 2 0 4", "4 1 0 3", "1 2 2 0", "3 4 0 4"], *"b[a[c[a[b[")]
        for states, wished, steps, *rows in asked:
            device = Device(list("dbca")[:len(steps[0].split())], ["y"], [
                {button: (int(step[0]), list(step[1:])) for button, step in zip("dbca", row.split())} for row in steps])
            case, goal = Case(device, states), ("in", wished)
            table = oracle.Table(case)
            depths = table.depths(goal)
            search, fresh = Search(case, goal), Search(case, goal)
            search.left()
            for place in range(0, len(rows), 2):
                answer = [] if rows[place + 1] == "[" else rows[place + 1]
                fresh(rows[place], answer)
                belief = frozenset(search(rows[place], answer))
                self.assertEqual(
                    [search.left(), search.advice()], [depths[belief], oracle.advised(table.model, depths, belief)])
            self.assertEqual(seen(search), seen(fresh))

    def test_followed_to_its_end(self):
        rng = random.Random(17)
        count = 0
        for case in oracle.random_cases(17, 60, 4, 3) + oracle.random_cases(18, 15, 5, 4):
            for goal in oracle.goals_of(case, rng):
                if least_depth(case, goal) is not None:
                    for made in BOTH:
                        count += self.follow(made(case, goal), case)
        self.assertGreater(count, 500)

    def follow(self, search, case):
        """Follow the advice by each possible answer; return the number of beliefs that were come to."""
        left, button = search.left(), search.advice()
        self.assertEqual([search.is_met, button is None], [left == 0, left == 0])
        if left == 0:
            return 1
        count = 1
        for answer, after in case.next_beliefs(search.belief, button):
            self.assertEqual(search(button, answer), after)
            self.assertLess(search.left(), left)
            count += self.follow(search, case)
            search.undo()
        return count


class UndoTest(unittest.TestCase):
    def test_nothing_to_undo(self):
        for made in BOTH:
            search = small_search(made)
            assert_refused(self, search, NothingToUndo, 0, search.undo)
            self.assertRaises(NothingToUndo, search.undo)
            search("push", [])
            self.assertIsNone(search.undo())
            assert_refused(self, search, NothingToUndo, 0, search.undo)

    def test_step_by_step(self):
        for made in BOTH:
            search = small_search(made)
            rows = [("push", []), ("push", ["red"]), ("push", ["red"]), ("push", ["red"])]
            told = [seen(search)]
            for button, answer in rows:
                search(button, answer)
                told.append(seen(search))
            self.assertEqual([len(search), search.told], [4, rows])
            for wanted in told[-2::-1]:
                self.assertIsNone(search.undo())
                self.assertEqual(seen(search), wanted)
            search("push", ["red"])
            self.assertEqual(seen(search), [[(2, 2)], [("push", ["red"])], True, 1, 0, None])

    def test_many_presses(self):
        rows = [("low", ["ones"]), ("high", ["twos"])] * 30
        for made in BOTH:
            search = made(Case(numbered(), [0, 1, 2, 3]), ("first",))
            fresh = seen(search)
            for _ in range(4):
                self.assertEqual(search.tell_all(rows[:50]), [(3, 3)])
                for count in range(49, 1, -1):
                    self.assertIsNone(search.undo())
                    self.assertEqual(seen(search), [[(3, 3)], rows[:count], True, count, 0, None])
                self.assertEqual([search.undo(), search.undo()], [None, None])
                self.assertEqual(seen(search), fresh)
                assert_refused(self, search, NothingToUndo, 0, search.undo)
            for row in rows:
                search(*row)
            self.assertEqual(seen(search), [[(3, 3)], rows, True, 60, 0, None])


class TellAllTest(unittest.TestCase):
    def test_the_empty_list(self):
        for made in BOTH:
            search = small_search(made)
            self.assertEqual(search.tell_all([]), [(0, 0), (1, 1), (2, 2)])
            self.assertEqual(seen(search), seen(small_search(made)))
            search("push", [])
            before = seen(search)
            self.assertEqual(search.tell_all([]), [(0, 1), (1, 2)])
            self.assertEqual(seen(search), before)

    def test_several_presses(self):
        for made in BOTH:
            search, other = small_search(made), small_search(made)
            rows = [("push", []), ("push", ["red", "red"]), ("push", ["red"])]
            self.assertEqual(search.tell_all(rows), [(1, 2)])
            for button, answer in rows:
                other(button, answer)
            self.assertEqual(seen(search), seen(other))
            self.assertEqual(search.told, [("push", []), ("push", ["red"]), ("push", ["red"])])
            search.undo()
            self.assertEqual([search.belief, len(search)], [[(1, 2)], 2])
            self.assertEqual(search.tell_all([("push", ["red"])] * 58), [(1, 2)])
            self.assertEqual(len(search), 60)

    def test_an_error_at_each_place(self):
        good = [("low", []), ("high", ["twos"]), ("both", ["twos"]), ("low", []), ("both", ["twos", "twos"])]
        wrong = [
            (("none", []), UnknownButton, "none"), (("dark", []), Harmful, "dark"),
            (("both", ["ones", "twos", "ones"]), ImpossibleAnswer, ["ones", "twos", "ones"]),
            (("high", []), ImpossibleAnswer, []), (("high", ["pink"]), ImpossibleAnswer, ["pink"])]
        for made in BOTH:
            for row, error, value in wrong:
                for place in range(2, len(good) + 1):
                    for behind in ([], [("other", ["x"])], [("dark", ["y"])], [("both", ["z"])]):
                        for first in (0, 1):
                            search = made(Case(numbered(), [0, 1, 2, 3]), ("group", [[0], [1], [2], [3]]))
                            search.tell_all(good[:first])
                            rows = good[first:place] + [row] + behind
                            assert_refused(self, search, error, value, search.tell_all, rows)
                            self.assertEqual(search.tell_all(good[first:]), [(2, 2)])
                            self.assertEqual(len(search), 5)

    def test_an_error_at_the_first_place(self):
        for made in BOTH:
            search = small_search(made)
            for row, error, value in (
                    (("none", []), UnknownButton, "none"), (("turn", []), Harmful, "turn"),
                    (("push", ["blue"]), ImpossibleAnswer, ["blue"])):
                for behind in ([], [("push", [])], [("what", ["x"])], [("turn", ["y"])], [("push", ["z"])]):
                    assert_refused(self, search, error, value, search.tell_all, [row] + behind)

    def test_an_error_far_behind(self):
        for made in BOTH:
            search = small_search(made)
            rows = [("push", [])] * 2 + [("push", ["red"])] * 57
            assert_refused(self, search, UnknownButton, "x", search.tell_all, rows + [("x", [])])
            assert_refused(self, search, Harmful, "turn", search.tell_all, rows + [("turn", [])])
            assert_refused(self, search, ImpossibleAnswer, [], search.tell_all, rows + [("push", [])])
            search.tell_all(rows)
            self.assertEqual([search.belief, len(search)], [[(0, 2)], 59])


class SureTest(unittest.TestCase):
    def test_no_plan_at_the_beginning(self):
        asked = [
            (Case(small(), [0, 1, 2], lamps=[]), ("first",)), (Case(small(), [0, 1, 2], buttons=[]), ("now",)),
            (Case(small(), [0, 1, 2]), ("in", [])), (Case(mixing(), [0, 1, 2, 3]), ("first",)),
            (Case(numbered(), [0, 1, 2, 3], lamps=["ones"]), ("group", [[0, 1], [2, 3]]))]
        for case, goal in asked:
            with self.assertRaises(NoPlan) as caught:
                SureSearch(case, goal)
            listed = caught.exception.value
            self.assertTrue(oracle.is_closed(case, goal, listed))
            self.assertIs(judge_closed(case, goal, listed), True)
            self.assertEqual([type(listed), {type(belief) for belief in listed}], [list, {list}])
            self.assertEqual(len({id(place) for place in lists_in(listed)}), 1 + len(listed))
            before = closed(case, goal)
            spoil(listed)
            self.assertEqual(closed(case, goal), before)
            with self.assertRaises(NoPlan) as caught:
                SureSearch(goal=goal, case=case)
            self.assertIs(judge_closed(case, goal, caught.exception.value), True)

    def test_a_press_that_puts_the_goal_out_of_reach(self):
        sure = SureSearch(Case(small(), [0, 1]), ("first",))
        other = SureSearch(Case(small(), [0]), ("in", [1]))
        # Push brings 0 to 1, which is met, and then to 2, from where nothing leads back.
        self.assertEqual(other("push", []), [(0, 1)])
        for answer in ([], ["red"], ["none"]):
            assert_refused(self, other, NoPlan, "push", other, "push", answer)
            assert_refused(self, other, NoPlan, "push", other.tell_all, [("push", answer)])
            assert_refused(self, other, NoPlan, "push", other.tell_all, [("turn", []), ("push", answer), ("no", [])])
        self.assertEqual(other("turn", []), [(0, 1)])
        self.assertEqual(sure("turn", []), [(1, 1)])
        self.assertEqual(sure("push", []), [(1, 2)])
        assert_refused(self, sure, Harmful, "turn", sure, "turn", [])

    def test_one_possible_answer_is_enough(self):
        device = Device(["a", "b", "c"], ["y"], [
            {"a": (0, []), "b": (2, []), "c": (0, [])}, {"a": (1, ["y"]), "b": (2, ["y"]), "c": (2, ["y"])}, {}])
        sure = SureSearch(Case(device, [0, 1]), ("group", [[0], [1]]))
        self.assertEqual(sure("c", ["y"]), [(1, 2)])
        sure = SureSearch(Case(device, [0, 1]), ("in", [0, 1]))
        for answer in ([], ["y"], ["x"]):
            assert_refused(self, sure, NoPlan, "b", sure, "b", answer)
            assert_refused(self, sure, NoPlan, "c", sure, "c", answer)
        self.assertTrue(sure.is_met)
        self.assertEqual(sure("a", []), [(0, 0)])
        # Behind this answer the press that lost the goal in the other state does no longer do so.
        self.assertEqual(sure("c", []), [(0, 0)])
        assert_refused(self, sure, NoPlan, "b", sure, "b", [])
        search = Search(Case(device, [0, 1]), ("in", [0, 1]))
        self.assertEqual(search("c", []), [(0, 0)])

    def test_the_order_of_errors(self):
        device = Device(["a", "b", "c"], ["y"], [{"a": (0, []), "b": (1, ["y"])}, {"c": (0, [])}])
        sure = SureSearch(Case(device, [0], buttons=["a", "b"]), ("in", [0]))
        assert_refused(self, sure, UnknownButton, "c", sure, "c", ["x"])
        assert_refused(self, sure, NoPlan, "b", sure, "b", ["x"])
        assert_refused(self, sure, ImpossibleAnswer, ["x"], sure, "a", ["x"])
        sure = SureSearch(Case(device, [0]), ("in", [0]))
        assert_refused(self, sure, Harmful, "c", sure, "c", ["x"])
        self.assertEqual(sure("b", ["y"]), [(0, 1)])
        self.assertEqual(sure.left(), 1)

    def test_all_else_as_for_a_search(self):
        sure, search = small_search(SureSearch), small_search()
        for rows in ([("push", [])], [("push", ["red"]), ("push", ["red"])], []):
            self.assertEqual(sure.tell_all(rows), search.tell_all(rows))
            self.assertEqual(seen(sure), seen(search))
        self.assertEqual([sure.undo(), search.undo()], [None, None])
        self.assertEqual(seen(sure), seen(search))


class OtherWayTest(unittest.TestCase):
    """Random presses, answers and errors, against what is found in another way."""

    def setUp(self):
        self.rng = random.Random(31)
        self.found = {}

    def test_random_searches(self):
        cases = oracle.random_cases(31, 80, 4, 3) + oracle.random_cases(32, 80, 3, 3) + oracle.random_cases(33, 8, 5, 4)
        for case in cases:
            table = oracle.Table(case)
            for goal in oracle.goals_of(case, self.rng):
                depths = table.depths(goal)
                self.go(Search(case, goal), table.model, goal, depths)
                if depths[table.model.start] is None:
                    with self.assertRaises(NoPlan) as caught:
                        SureSearch(case, goal)
                    self.assertTrue(oracle.is_closed(case, goal, caught.exception.value))
                else:
                    self.go(SureSearch(case, goal), table.model, goal, depths)
        for made in BOTH:
            for what in (
                    "told", "undone", UnknownButton, Harmful, ImpossibleAnswer, NothingToUndo, "all", "none", "met"):
                self.assertGreater(self.found[made, what], 30, (made, what))
        self.assertGreater(self.found[SureSearch, NoPlan], 30)
        self.assertNotIn((Search, NoPlan), self.found)
        self.assertGreater(self.found[Search, "lost"], 30)
        self.assertNotIn((SureSearch, "lost"), self.found)

    def count(self, search, what):
        key = search.__class__, what
        self.found[key] = self.found.get(key, 0) + 1

    def go(self, search, model, goal, depths):
        path, told = [model.start], []
        for _ in range(12):
            kind = self.rng.randrange(6)
            if kind == 0 and not told:
                assert_raises(self, NothingToUndo, 0, search.undo)
                self.count(search, NothingToUndo)
            elif kind == 0:
                self.assertIsNone(search.undo())
                self.count(search, "undone")
                path.pop()
                told.pop()
            else:
                self.tell(search, model, depths, path, told, self.rng.choice([0, 2, 3]) if kind == 1 else None)
            self.compare(search, model, goal, depths, path[-1], told)

    def compare(self, search, model, goal, depths, belief, told):
        self.assertEqual([search.belief, search.told, len(search)], [sorted(belief), told, len(told)])
        self.assertIs(search.is_met, oracle.is_met(goal, belief))
        self.count(search, "lost" if depths[belief] is None and goal != ("in", []) else "in reach")
        self.count(search, "met" if search.is_met else "unmet")
        wanted = [depths[belief], oracle.advised(model, depths, belief)]
        if self.rng.random() < 0.4:
            self.assertEqual([search.left(), search.advice()], wanted)
        elif self.rng.random() < 0.5:
            self.assertEqual([search.advice(), search.left()], wanted[::-1])

    def tell(self, search, model, depths, path, told, many):
        """Tell one press by the call, or so many in a list."""
        rows, errors, beliefs, kept = [], [], [path[-1]], []
        for _ in range(1 if many is None else many):
            button = self.rng.choice(model.buttons * 4 + ["a", "none"])
            found = model.press(beliefs[-1], button)
            answer = self.drawn_answer(model, found)
            rows.append((button, answer))
            if not errors:
                error = self.expected(search, model, depths, found, button, answer)
                if error is not None:
                    errors.append((error, answer if error is ImpossibleAnswer else button))
                else:
                    shown = tuple(lamp for lamp in model.lamps if lamp in answer)
                    beliefs.append(found[shown])
                    kept.append((button, list(shown)))
        call, args = (search, rows[0]) if many is None else (search.tell_all, (rows,))
        if errors:
            assert_raises(self, *errors[0], call, *args)
            self.count(search, errors[0][0])
            if len(rows) > 1:
                self.count(search, "none")
            return
        self.assertEqual(call(*args), sorted(beliefs[-1]))
        self.count(search, "told" if many is None else "all")
        path.extend(beliefs[1:])
        told.extend(kept)

    def drawn_answer(self, model, found):
        if not found or self.rng.random() < 0.15:
            return self.rng.choices(model.lamps + ["pink", "x", "y"], k=self.rng.randrange(3))
        shown = list(self.rng.choice(sorted(found)))
        shown += [lamp for lamp in shown if self.rng.random() < 0.3]
        self.rng.shuffle(shown)
        return shown

    def expected(self, search, model, depths, found, button, answer):
        if button not in model.buttons:
            return UnknownButton
        if found is None:
            return Harmful
        if isinstance(search, SureSearch) and not oracle.keeps(depths, found):
            return NoPlan
        if set(answer) not in [set(shown) for shown in found]:
            return ImpossibleAnswer
        return None


class EqualityTest(unittest.TestCase):
    def same(self, one, other, wanted):
        self.assertIs(one == other, wanted)
        self.assertIs(other == one, wanted)
        self.assertIs(one != other, not wanted)
        self.assertIs(other != one, not wanted)

    def test_told_in_another_way(self):
        for made in BOTH:
            one, other = [made(Case(numbered(), [0, 1, 2, 3]), ("first",)) for _ in range(2)]
            self.same(one, other, True)
            self.same(one, one, True)
            one("low", ["ones"])
            self.same(one, other, False)
            one("both", ["ones", "twos"])
            other.tell_all([("low", ["ones", "ones"]), ("both", ["twos", "ones"])])
            self.same(one, other, True)
            one.undo()
            self.same(one, other, False)
            other.undo()
            self.same(one, other, True)
            other.left()
            self.same(one, other, True)
            one.undo()
            other.undo()
            self.same(one, made(Case(numbered(), [3, 2, 1, 0]), ("first",)), True)

    def test_another_case(self):
        for made in BOTH:
            base = small_search(made)
            for case in (
                    Case(small(), [0, 1]), Case(small(), [0, 1, 2], buttons=["push"]), Case(numbered(), [0, 1, 2])):
                self.same(base, made(case, ("first",)), False)
            self.same(base, made(Case(small(), [2, 1, 0, 2], lamps=["red", "red"], buttons=["turn", "push"]), (
                "first",)), True)
            now = made(Case(small(), [0, 1, 2]), ("now",))
            self.same(now, made(Case(small(), [0, 1, 2], lamps=[]), ("now",)), False)

    def test_another_goal(self):
        goals = [
            ("first",), ("now",), ("in", [1, 2]), ("in", [2, 1]), ("in", [1, 2, 2]), ("in", [2]),
            ("group", [[0], [1], [2]]), ("group", [[1], [0], [2]]), ("group", [[0], [1], [2], []]),
            ("group", [[0], [1], [2, 7]]), ("group", [[0, 1], [2]])]
        for made in BOTH:
            for place, goal in enumerate(goals):
                for other, told in enumerate(goals):
                    self.same(small_search(made, goal), small_search(made, told), place == other)

    def test_another_press_or_answer(self):
        for made in BOTH:
            case = Case(numbered(), [0, 1, 2, 3])
            rows = [
                [], [("low", [])], [("low", ["ones"])], [("high", [])], [("low", []), ("low", [])],
                [("low", []), ("high", [])], [("high", []), ("low", [])], [("both", [])]]
            for place, told in enumerate(rows):
                for other, wanted in enumerate(rows):
                    one, two = made(case, ("first",)), made(case, ("first",))
                    one.tell_all(told)
                    two.tell_all(wanted)
                    self.same(one, two, place == other)
            one, two = made(case, ("first",)), made(case, ("first",))
            one.tell_all([("low", ["ones"]), ("high", [])])
            two.tell_all([("high", []), ("low", ["ones"])])
            self.assertEqual(one.belief, two.belief)
            self.same(one, two, False)

    def test_a_sure_search_and_a_search(self):
        sure, search = small_search(SureSearch), small_search()
        self.same(sure, search, False)
        for row in [("push", []), ("push", ["red"])]:
            sure(*row)
            search(*row)
            self.same(sure, search, False)

    def test_never_equal_to_anything_else(self):
        for made in BOTH:
            case = Case(small(), [0, 1, 2])
            search = made(case, ("first",))
            for other in (
                    None, 0, 2, True, False, "", "first", [], case.start, (), ("first",), {}, case, small(), object(),
                    made, search.told, 10 ** 59):
                self.same(search, other, False)


class SeveralTest(unittest.TestCase):
    def test_by_turns(self):
        base = Case(numbered(), [0, 1, 2, 3])
        goal = ("group", [[0, 1], [2, 3]])

        def made():
            return [
                Search(base, goal), SureSearch(base, goal), Search(base, ("first",)), Search(base, ("now",)),
                Search(base.with_lamps(["twos"]), goal), Search(base.with_lamps([]), goal),
                Search(base.with_buttons(["low", "dark"]), goal), SureSearch(base.with_buttons(["high"]), goal),
                Search(base, ("group", [[0, 2], [1, 3]]))]

        rows = [
            [("both", ["twos"]), ("low", [])], [("high", []), ("low", ["ones"])], [("low", []), ("high", ["twos"])],
            [("high", ["twos"])], [("both", ["twos"])], [("both", []), ("low", [])], [("low", ["ones"])],
            [("high", []), ("high", [])], [("low", []), ("low", [])]]
        alone = [[] for _ in rows]
        for place in range(len(rows)):
            search = made()[place]
            alone[place].append(seen(search))
            for row in rows[place]:
                search(*row)
                alone[place].append(seen(search))
        together = made()
        self.assertEqual([seen(search) for search in together], [told[0] for told in alone])
        for turn in range(2):
            for place in reversed(range(len(rows))):
                if turn < len(rows[place]):
                    together[place](*rows[place][turn])
                    self.assertEqual(seen(together[place]), alone[place][turn + 1])
        for place, search in enumerate(together):
            self.assertEqual(seen(search), alone[place][-1])
            for told in alone[place][-2::-1]:
                search.undo()
                self.assertEqual(seen(search), told)

    def test_the_case_stays_as_it_was(self):
        case = Case(small(), [0, 1, 2])
        before = [case.start, case.next_beliefs(case.start, "push"), case.lamps, case.buttons]
        for made in BOTH:
            search = made(case, ("first",))
            spoil(search("push", []))
            search.left()
        self.assertEqual([case.start, case.next_beliefs(case.start, "push"), case.lamps, case.buttons], before)
        self.assertEqual(case, Case(small(), [0, 1, 2]))


class RuleTest(unittest.TestCase):
    def test_arguments_by_name(self):
        for made in BOTH:
            assert_by_name(self, made, ("case", Case(small(), [0, 1, 2])), ("goal", ("first",)))
            assert_by_name(self, small_search(made), ("button", "push"), ("answer", ["red"]))
            assert_by_name(self, lambda rows: small_search(made).tell_all(rows=rows), ("rows", [("push", [])]))

    def test_arguments_stay_as_they_were(self):
        for made in BOTH:
            assert_keeps_arguments(self, lambda goal: seen(made(Case(small(), [0, 1, 2]), goal)), (
                "group", [[0], [1, 2, 9]]))
            assert_keeps_arguments(self, lambda answer: small_search(made)("push", answer), ["red", "red"])
            assert_keeps_arguments(
                self, lambda rows: small_search(made).tell_all(rows), [("push", []), ("push", ["red", "red"])])

    def test_what_was_told_is_kept_apart(self):
        for made in BOTH:
            search = small_search(made)
            answer, rows = ["red", "red"], [("push", ["red"]), ("push", ["red"])]
            search("push", answer)
            search.tell_all(rows)
            before = seen(search)
            spoil(answer)
            spoil(rows)
            self.assertEqual(seen(search), before)
            self.assertEqual(search.told, [("push", ["red"])] * 3)
            self.assertTrue(all(type(told) is str for _, shown in search.told for told in shown))

    def test_answers_are_new(self):
        for made in BOTH:
            search = small_search(made)
            assert_fresh(self, lambda: seen(search))
            search("push", [])
            assert_fresh(self, lambda: [search.belief, search.told, search.left()])
            assert_fresh(self, lambda: search.tell_all([]))
            returned = search("push", ["red"])
            self.assertIsNot(returned, search.belief)
            spoil(returned)
            self.assertEqual(search.belief, [(1, 2)])
            assert_fresh(self, lambda: [search.belief, search.told, search.told])
            search.undo()
            spoil(search.tell_all([("push", []), ("push", ["red"])]))
            self.assertEqual(search.belief, [(0, 2)])
            assert_fresh(self, lambda: small_search(made)("push", []))


class StepTest(unittest.TestCase):
    """Each belief takes at most some thousands of steps, however often a search is asked."""

    BLIND = [("turn", []), ("swap", []), ("stay", []), ("turn", []), ("turn", []), ("swap", [])] * 10

    def ask_along(self, made, case, goal, rows):
        search = made(case, goal)
        for row in rows:
            search(*row)
            search.left()
            search.advice()
            search.is_met
        return len(search)

    def test_a_search_of_many_presses(self):
        case = Case(mixing(), [0, 1, 2, 3])
        for made, goal in ((Search, ("first",)), (Search, ("in", [])), (Search, ("in", [2])), (SureSearch, ("in", [2]))):
            told, count = steps_of(self.ask_along, made, case, goal, self.BLIND)
            self.assertEqual(told, 60)
            self.assertLess(count, 2000 * 625)

    def test_many_presses_in_a_list(self):
        case = Case(mixing(), [0, 1, 2, 3])
        for made, goal in ((Search, ("first",)), (SureSearch, ("in", [2]))):
            search, count = steps_of(made, case, goal)
            self.assertLess(count, 2000 * 625)
            self.assertLess(steps_of(search.tell_all, self.BLIND)[1], 2000 * 625)
            self.assertLess(steps_of(search.left)[1], 2000 * 625)

    def test_no_belief_is_examined_twice(self):
        search = Search(Case(mixing(), [0, 1, 2, 3]), ("first",))
        first = steps_of(search.left)[1]
        self.assertGreater(first, 20 * 625)
        for row in self.BLIND:
            search(*row)
            self.assertLess(steps_of(search.left)[1] + steps_of(search.advice)[1], 2000)
        search = SureSearch(Case(mixing(), [0, 1, 2, 3]), ("in", [2]))
        search.tell_all([("join", [])] * 3)
        self.assertLess(sum(steps_of(search, *row)[1] for row in self.BLIND[:40]), 2000 * 625)
        for _ in range(40):
            search.undo()
        self.assertLess(sum(steps_of(search, *row)[1] for row in self.BLIND[:40]), 2000 * 40)

    def test_a_met_goal_is_not_looked_behind(self):
        case = Case(mixing(), [0, 1, 2, 3])
        for goal in (("group", [[5] * 20] * 19 + [[0, 1, 2, 3]]), ("in", [4, 3, 2, 1, 0])):
            search = Search(case, goal)
            self.assertLess(steps_of(search.left)[1] + steps_of(search.advice)[1], 2000)
            for row in self.BLIND:
                self.assertLess(steps_of(search, *row)[1], 2000)
                self.assertLess(steps_of(search.left)[1] + steps_of(search.advice)[1], 2000)
