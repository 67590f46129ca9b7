"""Fixed rows: their spreads, the first right one, and closed lists of spreads where there is none."""

from surepresses.cases import check_goal, is_belief, is_met_by
from surepresses.checks import check_buttons
from surepresses.devices import row_to
from surepresses.errors import Harmful
from surepresses.reach import branches_after, moves_of, start_of


def spread(case, row):
    """Return the spread of a row."""
    check_buttons(row, case.buttons)
    moves = moves_of(case)
    beliefs = empty_spread(case)
    for index, button in enumerate(row):
        beliefs = spread_after(beliefs, moves[button])
        if beliefs is None:
            raise Harmful(index)
    return told_spread(beliefs)


def is_right_row(case, goal, row):
    """Tell whether a row is right."""
    check_goal(case, goal)
    moves = moves_of(case)
    beliefs = empty_spread(case)
    for button in row:
        beliefs = spread_after(beliefs, moves[button]) if button in moves else None
        if beliefs is None:
            return False
    return all_meet(goal, beliefs)


def least_row(case, goal):
    """Return the first right row, None if there is none."""
    check_goal(case, goal)
    came, right = reached_spreads(case, goal)
    return None if right is None else row_to(came, right)


def closed_rows(case, goal):
    """Return a closed list of spreads, None if there is a right row."""
    check_goal(case, goal)
    came, right = reached_spreads(case, goal)
    return [told_spread(beliefs) for beliefs in came] if right is None else None


def judge_rows(case, goal, told):
    """Tell whether a list of spreads is closed."""
    check_goal(case, goal)
    if not all([is_spread(case, beliefs) for beliefs in told]):
        return False
    listed = {tuple([tuple(belief) for belief in beliefs]): True for beliefs in told}
    if empty_spread(case) not in listed or len(listed) != len(told):
        return False
    moves = moves_of(case)
    return all([not all_meet(goal, beliefs) and stays_among(listed, beliefs, moves) for beliefs in listed])


def stays_among(listed, beliefs, moves):
    """Tell whether each press that is safe at all beliefs of a spread leads to a listed spread."""
    following = [spread_after(beliefs, moves[button]) for button in moves]
    return all([after is None or after in listed for after in following])


def is_spread(case, beliefs):
    """Tell whether a list of lists is an ascending list of beliefs with each possible state once at first."""
    if beliefs != sorted(beliefs) or not all([is_belief(case, belief) for belief in beliefs]):
        return False
    return sorted([first for belief in beliefs for first, _ in belief]) == case.states


def empty_spread(case):
    """Return the spread of the empty row; a spread is a tuple of beliefs as tuples here, so that it can be a key."""
    return (start_of(case),)


def spread_after(beliefs, steps):
    """Return the spread after a press with the steps of one button, None if it does harm at some belief."""
    found = []
    for belief in beliefs:
        branches = branches_after(belief, steps)
        if branches is None:
            return None
        found.extend([after for _, after in branches])
    return tuple(sorted(found))


def all_meet(goal, beliefs):
    """Tell whether each belief of a spread meets a goal."""
    return all([is_met_by(goal, belief) for belief in beliefs])


def told_spread(beliefs):
    """Return a spread as a list of lists."""
    return [list(belief) for belief in beliefs]


def reached_spreads(case, goal):
    """Return a dict of (spread before, button) for the spreads that rows lead to, and the first one at the goal.

    The second is None if there is none; otherwise the dict goes no further than needed.
    """
    moves = moves_of(case)
    start = empty_spread(case)
    came = {start: None}
    order = [start]
    looked = 0
    # The spreads stand in the order of their first rows: so the first one at the goal has the first right row.
    while looked < len(order):
        beliefs = order[looked]
        if all_meet(goal, beliefs):
            return came, beliefs
        for button in moves:
            after = spread_after(beliefs, moves[button])
            if after is not None and after not in came:
                came[after] = (beliefs, button)
                order.append(after)
        looked = looked + 1
    return came, None
