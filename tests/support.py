"""What several test files use."""

import copy
import sys

from surepresses.cases import Case
from surepresses.devices import Device
from surepresses.errors import InvalidGoal


def lists_in(answer):
    """Return all lists in an answer, itself included, each as often as it stands there."""
    found = [answer] if isinstance(answer, list) else []
    if isinstance(answer, dict):
        answer = list(answer.values())
    if isinstance(answer, (list, tuple)):
        for entry in answer:
            found.extend(lists_in(entry))
    return found


def spoil(answer):
    """Change each list and dict in an answer."""
    if isinstance(answer, dict):
        inner = list(answer.values())
        answer.clear()
    elif isinstance(answer, (list, tuple)):
        inner = list(answer)
    else:
        return
    for entry in inner:
        spoil(entry)
    if isinstance(answer, list):
        answer.insert(0, "spoilt")
        answer.append(-77)


def assert_fresh(test, ask):
    """Ask twice: no list stands in two places, and changes of an answer change no later one."""
    first = ask()
    second = ask()
    places = lists_in(first) + lists_in(second)
    test.assertEqual(len({id(place) for place in places}), len(places))
    kept = copy.deepcopy(second)
    spoil(first)
    test.assertEqual(second, kept)
    test.assertEqual(ask(), kept)


def assert_raises(test, error, value, call, *args, **more):
    """A call raises just this error, with an equal value of the same kinds, and none of the lists passed."""
    passed = copy.deepcopy((args, more))
    with test.assertRaises(error) as caught:
        call(*args, **more)
    test.assertIs(caught.exception.__class__, error)
    stored = caught.exception.value
    test.assertEqual(repr(stored), repr(value))
    test.assertEqual((args, more), passed)
    own = lists_in(stored)
    given = lists_in(args) + lists_in(more)
    test.assertEqual(len({id(place) for place in own}), len(own))
    test.assertFalse({id(place) for place in own} & {id(place) for place in given})


def steps_of(call, *args):
    """Return the answer of a call and the number of lines of the package that it ran."""
    count = [0]

    def traced(frame, event, arg):
        if "surepresses" not in frame.f_globals.get("__name__", ""):
            return None
        count[0] += 1
        return traced

    before = sys.gettrace()
    sys.settrace(traced)
    try:
        answer = call(*args)
    finally:
        sys.settrace(before)
    return answer, count[0]


def goal_case():
    """Return a case of a device with five states, of which 0, 2 and 3 are possible."""
    steps = [{"a": (1, ["y"]), "b": (2, [])}, {"a": (4, [])}, {"a": (3, []), "b": (0, ["y"])}, {"b": (3, [])}, {}]
    return Case(Device(["b", "a"], ["y"], steps), [3, 0, 2])


def wrong_goals():
    """Return tuples that are no goals of that case, in each way that there is."""
    return [
        ("",), ("Now",), ("firsts",), ("end",), ("none", [[0, 2, 3]]), ("~", 0, 1), ("groups", [[0, 2, 3]]),
        ("now", 0), ("first", 2), ("now", 1, 2), ("group",), ("in",), ("group", [[0, 2, 3]], 0), ("in", [0], 10 ** 59),
        ("group", []), ("group", [[], []]), ("group", [[0, 2]]), ("group", [[0], [1], [3]]),
        ("group", [[0, 2, 3, 0]]), ("group", [[0, 2], [3, 0]]), ("group", [[0], [2], [3], [], [3]]),
        ("group", [[0, 2, 3, -1], [2, -1]]), ("in", [5]), ("in", [-1]), ("in", [0, 1, 2, 3, 4, 10 ** 59]),
    ]


def assert_goal_errors(test, call, *others):
    """A call with that case, a goal and perhaps other arguments raises InvalidGoal for each wrong goal."""
    for goal in wrong_goals():
        assert_raises(test, InvalidGoal, goal, call, goal_case(), goal, *others)
        kept = copy.deepcopy(goal)
        with test.assertRaises(InvalidGoal) as caught:
            call(goal_case(), goal, *others)
        spoil(goal)
        test.assertEqual(caught.exception.value, kept)


def assert_by_name(test, call, *names_and_values):
    """A call takes all its arguments by name, too."""
    named = dict(names_and_values)
    test.assertEqual(call(**named), call(*list(named.values())))
    backwards = {name: named[name] for name in reversed(list(named))}
    test.assertEqual(call(**backwards), call(*list(named.values())))


def assert_keeps_arguments(test, call, *args):
    """A call changes no argument and shares no list with one; later changes of them change no later answer."""
    passed = copy.deepcopy(args)
    answer = call(*args)
    test.assertEqual(args, passed)
    given = {id(place) for place in lists_in(args)}
    test.assertFalse(given & {id(place) for place in lists_in(answer)})
    kept = copy.deepcopy(answer)
    for place in args:
        spoil(place)
    test.assertEqual(answer, kept)
    test.assertEqual(call(*passed), kept)
