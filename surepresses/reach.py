"""What a case can come to: the beliefs on all ways to a goal, and the least cost of a plan from each of them.

Inside, a belief is a tuple, so that it can be a key. A way is a tuple of a button and the list of
(answer, belief after it); from a belief that meets the goal, the only way is the end: (None, []).
"""

from heapq import heappop, heappush

from surepresses.cases import is_met_by


def start_of(case):
    """Return the start belief of a case as a tuple."""
    return tuple(case.start)


def moves_of(case):
    """Return for each usable button the list of what it does in each state: (next state, answer), or None for harm."""
    device = case.device
    lamps = case.lamps
    return {
        button: [watched_step(device.step(state, button), lamps) for state in range(len(device))]
        for button in case.buttons
    }


def watched_step(taken, lamps):
    """Return a step with the watched ones of its lamps only, None if it is none."""
    if taken is None:
        return None
    after, shining = taken
    return (after, tuple([lamp for lamp in lamps if lamp in shining]))


def branches_after(belief, steps):
    """Return (answer, belief after it) for each possible answer, ascending, None if the press does harm.

    The steps are those of one button, as in moves_of.
    """
    found = {}
    for first, now in belief:
        if steps[now] is None:
            return None
        after, answer = steps[now]
        found.setdefault(answer, []).append((first, after))
    return [(answer, tuple(found[answer])) for answer in sorted(found)]


def presses_at(belief, moves):
    """Return the ways (button, branches) of the safe presses at a belief, in the order of the buttons."""
    tried = [(button, branches_after(belief, moves[button])) for button in moves]
    return [(button, branches) for button, branches in tried if branches is not None]


def ways_from(belief, goal, moves):
    """Return the ways from a belief: only the end if it meets the goal, otherwise its safe presses."""
    if is_met_by(goal, belief):
        return [(None, [])]
    return presses_at(belief, moves)


def explored(case, goal, begin):
    """Return a dict of the ways from each belief that can come from one, no further than the goal."""
    moves = moves_of(case)
    return explored_by(begin, lambda belief: ways_from(belief, goal, moves))


def explored_by(begin, ways_of):
    """Return a dict of the ways from each belief that can come from one by the ways that a function tells."""
    ways = {}
    waiting = [begin]
    while waiting:
        belief = waiting.pop()
        if belief not in ways:
            ways[belief] = ways_of(belief)
            waiting.extend([after for _, branches in ways[belief] for _, after in branches])
    return ways


def deepest(belief, costs):
    """Return the depth of a way from a belief, from those of the plans after its press, none for an end."""
    return max([1 + spent for spent in costs], default=0)


def summed(belief, costs):
    """Return the total of a way from a belief, from those of the plans after its press, none for an end."""
    return len(belief) + sum(costs) if costs else 0


def least_costs(ways, cost):
    """Return a dict of (least cost, button, branches) for each belief from which there is a right plan.

    Of several buttons with the least cost the first one is taken. The cost of a way is told by a
    function of its belief and of the costs after it, none for an end, and is more than each of these.
    """
    known = [(belief, button, branches) for belief in ways for button, branches in ways[belief]]
    lacking = [len(branches) for _, _, branches in known]
    users = users_of(ways, known)
    found = {}
    # The cheapest way comes first, and no later one costs less: so each belief is settled once,
    # and the cost of a way is told once, when the last belief after it is settled.
    queue = sorted([(cost(known[number][0], []), number) for number, count in enumerate(lacking) if count == 0])
    while queue:
        spent, number = heappop(queue)
        belief, button, branches = known[number]
        if belief in found:
            continue
        found[belief] = (spent, button, branches)
        for user in users[belief]:
            lacking[user] = lacking[user] - 1
            if lacking[user] == 0:
                before, _, settled = known[user]
                heappush(queue, (cost(before, [found[after][0] for _, after in settled]), user))
    return found


def users_of(ways, known):
    """Return for each belief the numbers of the known ways that lead to it."""
    users = {belief: [] for belief in ways}
    for number, (_, _, branches) in enumerate(known):
        for _, after in branches:
            users[after].append(number)
    return users
