"""What several test files use."""

import copy
import sys


def lists_in(answer):
    """Return all lists in an answer, itself included, each as often as it stands there."""
    found = [answer] if isinstance(answer, list) else []
    if isinstance(answer, dict):
        answer = list(answer.values())
    if isinstance(answer, (list, tuple)):
        for entry in answer:
            found.extend(lists_in(entry))
    return found


def spoil(answer):
    """Change each list and dict in an answer."""
    if isinstance(answer, dict):
        inner = list(answer.values())
        answer.clear()
    elif isinstance(answer, (list, tuple)):
        inner = list(answer)
    else:
        return
    for entry in inner:
        spoil(entry)
    if isinstance(answer, list):
        answer.insert(0, "spoilt")
        answer.append(-77)


def assert_fresh(test, ask):
    """Ask twice: no list stands in two places, and changes of an answer change no later one."""
    first = ask()
    second = ask()
    places = lists_in(first) + lists_in(second)
    test.assertEqual(len({id(place) for place in places}), len(places))
    kept = copy.deepcopy(second)
    spoil(first)
    test.assertEqual(second, kept)
    test.assertEqual(ask(), kept)


def assert_raises(test, error, value, call, *args, **more):
    """A call raises just this error, with an equal value of the same kinds, and none of the lists passed."""
    passed = copy.deepcopy((args, more))
    with test.assertRaises(error) as caught:
        call(*args, **more)
    test.assertIs(caught.exception.__class__, error)
    stored = caught.exception.value
    test.assertEqual(repr(stored), repr(value))
    test.assertEqual((args, more), passed)
    own = lists_in(stored)
    given = lists_in(args) + lists_in(more)
    test.assertEqual(len({id(place) for place in own}), len(own))
    test.assertFalse({id(place) for place in own} & {id(place) for place in given})


def steps_of(call, *args):
    """Return the answer of a call and the number of lines of the package that it ran."""
    count = [0]

    def traced(frame, event, arg):
        if "surepresses" not in frame.f_globals.get("__name__", ""):
            return None
        count[0] += 1
        return traced

    before = sys.gettrace()
    sys.settrace(traced)
    try:
        answer = call(*args)
    finally:
        sys.settrace(before)
    return answer, count[0]
