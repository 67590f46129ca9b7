"""Plans: the least ones, what judges them, and closed lists of beliefs where there is none."""

from surepresses.cases import check_goal, is_belief, is_met_by
from surepresses.errors import InvalidState, WrongPlan
from surepresses.reach import branches_after, deepest, explored, least_costs, moves_of, presses_at, start_of, summed


def least_depth(case, goal):
    """Return the least depth of a right plan, None if there is none."""
    return least_cost(case, goal, deepest)


def plan(case, goal):
    """Return a right plan of the least depth, None if there is none."""
    return cheapest_plan(case, goal, deepest)


def least_total(case, goal):
    """Return the least total of a right plan, None if there is none."""
    return least_cost(case, goal, summed)


def total_plan(case, goal):
    """Return a right plan of the least total, None if there is none."""
    return cheapest_plan(case, goal, summed)


def least_cost(case, goal, cost):
    """Return the least cost of a right plan, None if there is none."""
    check_goal(case, goal)
    start = start_of(case)
    found = least_costs(explored(case, goal, start), cost)
    return found[start][0] if start in found else None


def cheapest_plan(case, goal, cost):
    """Return a right plan of the least cost, None if there is none."""
    check_goal(case, goal)
    start = start_of(case)
    found = least_costs(explored(case, goal, start), cost)
    return plan_from(found, start) if start in found else None


def plan_from(found, begin):
    """Return the plan from a belief, as told by the found (cost, button, branches) of the beliefs."""
    order = [begin]
    reached = 0
    while reached < len(order):
        _, _, branches = found[order[reached]]
        order.extend([after for _, after in branches])
        reached = reached + 1
    # From the ends to the beginning, so that the depth of a plan is no depth of calls. No belief
    # stands twice in a plan of least cost, so no plan is used in two places.
    plans = {}
    for belief in order[::-1]:
        _, button, branches = found[belief]
        if branches == []:
            plans[belief] = ("end",)
        else:
            plans[belief] = ("press", button, [(list(answer), plans[after]) for answer, after in branches])
    return plans[begin]


def judge_plan(case, goal, told):
    """Tell whether a plan is right."""
    check_goal(case, goal)
    moves = moves_of(case)
    waiting = [(start_of(case), told)]
    while waiting:
        belief, step = waiting.pop()
        if step[0] == "end":
            if not is_met_by(goal, belief):
                return False
            continue
        _, button, branches = step
        known = branches_after(belief, moves[button]) if button in moves else None
        if known is None or [list(answer) for answer, _ in known] != [answer for answer, _ in branches]:
            return False
        waiting.extend([(after, inner) for (_, after), (_, inner) in zip(known, branches)])
    return True


def closed(case, goal):
    """Return a closed list of beliefs, None if there is a right plan."""
    check_goal(case, goal)
    start = start_of(case)
    ways = explored(case, goal, start)
    found = least_costs(ways, deepest)
    if start in found:
        return None
    return [list(belief) for belief in ways if belief not in found]


def judge_closed(case, goal, told):
    """Tell whether a list of beliefs is closed."""
    check_goal(case, goal)
    if not all([is_belief(case, belief) for belief in told]):
        return False
    listed = {tuple(belief): True for belief in told}
    if start_of(case) not in listed or len(listed) != len(told):
        return False
    moves = moves_of(case)
    return all([not is_met_by(goal, belief) and stays_in(listed, presses_at(belief, moves)) for belief in listed])


def stays_in(listed, presses):
    """Tell whether each press leads by some answer to a listed belief."""
    return all([any([after in listed for _, after in branches]) for _, branches in presses])


def depth(told):
    """Return the depth of a plan."""
    count = 0
    level = presses_among([told])
    while level:
        count = count + 1
        level = presses_among([inner for _, _, branches in level for _, inner in branches])
    return count


def presses_among(plans):
    """Return those of some plans that begin with a press."""
    return [told for told in plans if told[0] == "press"]


def walk(case, told, state):
    """Return (button, answer) for each press that a plan does from a possible state."""
    if state not in case.states:
        raise InvalidState(state)
    return presses_done(moves_of(case), told, state)


def total(case, told):
    """Return the total of a plan."""
    moves = moves_of(case)
    return sum([len(presses_done(moves, told, state)) for state in case.states])


def presses_done(moves, told, state):
    """Return (button, answer) for each press that a plan does from a state."""
    done = []
    while told[0] == "press":
        _, button, branches = told
        taken = moves[button][state] if button in moves else None
        if taken is None:
            raise WrongPlan(len(done))
        state, answer = taken
        done.append((button, list(answer)))
        following = [inner for shown, inner in branches if shown == list(answer)]
        if following == []:
            raise WrongPlan(len(done))
        told = following[0]
    return done
