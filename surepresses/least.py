"""The least sets of lamps to watch, and of buttons to use, with which there is a right plan."""

from itertools import combinations

from surepresses.cases import check_goal
from surepresses.reach import deepest, explored, least_costs, start_of


def least_lamps(case, goal):
    """Return all least sets of watched lamps with which there is a right plan."""
    check_goal(case, goal)
    start = start_of(case)
    return least_sets(
        case.device.lamps,
        lambda lamps: has_plan(explored(case.with_lamps(lamps), goal, start), start))


def least_buttons(case, goal):
    """Return all least sets of usable buttons with which there is a right plan."""
    check_goal(case, goal)
    start = start_of(case)
    # What a press leads to is the same whatever other buttons are usable: so all beliefs are looked at once.
    ways = explored(case.with_buttons(None), goal, start)
    return least_sets(case.device.buttons, lambda buttons: has_plan(ways_with(ways, buttons), start))


def least_sets(names, is_enough):
    """Return the sets of names that are enough and have no proper subset that is; more than enough is enough, too."""
    found = []
    for size in range(len(names) + 1):
        for chosen in combinations(names, size):
            if not any([holds(chosen, less) for less in found]) and is_enough(list(chosen)):
                found.append(list(chosen))
    return found


def holds(chosen, less):
    """Tell whether a set has all names of another one."""
    return all([name in chosen for name in less])


def has_plan(ways, start):
    """Tell whether there is a right plan from a belief, by the ways from all beliefs."""
    return start in least_costs(ways, deepest)


def ways_with(ways, buttons):
    """Return the ways from each belief whose button is one of some, and the ends."""
    return {
        belief: [(button, branches) for button, branches in ways[belief] if button is None or button in buttons]
        for belief in ways
    }
