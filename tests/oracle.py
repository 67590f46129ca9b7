"""Another way to all answers: slow, by the words of the document, and without the package's own helpers.

A case is read off its properties only. A belief is a frozenset of tuples (first, now) here.
"""

import itertools
import random

from surepresses.cases import Case
from surepresses.devices import Device

NEVER = 10 ** 9


def random_device(rng, states, buttons, lamps, harm, dark):
    """Return a device with random steps: some harmful, some lamps dark."""
    names = list("dbca")[:buttons]
    lights = list("yzx")[:lamps]
    return Device(names, lights, [
        {name: (rng.randrange(states), [light for light in lights if rng.random() >= dark])
         for name in names if rng.random() >= harm}
        for _ in range(states)])


def random_cases(seed, count, states, possible):
    """Return cases with so many states and possible states, most with all lamps and buttons, some with fewer."""
    rng = random.Random(seed)
    cases = []
    for _ in range(count):
        device = random_device(
            rng, states, rng.randint(1, 3), rng.randint(0, 2), rng.choice([0, 0.1, 0.3]), rng.choice([0.5, 0.8, 1]))
        lamps = None if rng.random() < 0.7 else [lamp for lamp in device.lamps if rng.random() < 0.5]
        buttons = None if rng.random() < 0.8 else [button for button in device.buttons if rng.random() < 0.7]
        cases.append(Case(device, rng.sample(range(states), possible), lamps=lamps, buttons=buttons))
    return cases


def goals_of(case, rng):
    """Return goals of each of the four kinds."""
    states = case.states
    count = len(case.device)
    parts = [[], [], [99]]
    for state in range(count):
        parts[rng.randrange(2)].append(state)
    return [
        ("now",), ("first",), ("group", parts), ("group", [states[:1], states[1:]]),
        ("in", [rng.randrange(count)]), ("in", rng.sample(range(count), count // 2 + 1)),
        ("in", [0] + states),
    ]


class Model:
    """What a case says of each press."""

    def __init__(self, case):
        self.steps = [{step[0]: step[1:] for step in steps} for steps in case.device.states]
        self.states = case.states
        self.lamps = case.lamps
        self.buttons = case.buttons
        self.start = frozenset((state, state) for state in case.states)

    def answer(self, state, button):
        """Return the state after a safe press and its answer as a tuple."""
        after, shining = self.steps[state][button]
        return after, tuple(lamp for lamp in self.lamps if lamp in shining)

    def is_safe(self, belief, button):
        return all(button in self.steps[now] for _, now in belief)

    def press(self, belief, button):
        """Return a dict of the beliefs after a press, by the answers; None for one that is not usable or not safe."""
        if button not in self.buttons or not self.is_safe(belief, button):
            return None
        found = {}
        for first, now in belief:
            after, answer = self.answer(now, button)
            found[answer] = found.get(answer, frozenset()) | {(first, after)}
        return found

    def is_belief(self, told):
        """Tell whether a list is a belief of the case."""
        firsts = [first for first, _ in told]
        return (
            told != [] and told == sorted(told) and len(set(firsts)) == len(firsts)
            and set(firsts) <= set(self.states) and {now for _, now in told} <= set(range(len(self.steps))))

    def beliefs(self):
        """Return all beliefs of the case."""
        for size in range(1, len(self.states) + 1):
            for firsts in itertools.combinations(self.states, size):
                for nows in itertools.product(range(len(self.steps)), repeat=size):
                    yield frozenset(zip(firsts, nows))


def is_met(goal, belief):
    """Tell whether a goal is met."""
    nows = {now for _, now in belief}
    firsts = {first for first, _ in belief}
    if goal[0] == "now":
        return len(nows) == 1
    if goal[0] == "first":
        return len(belief) == 1
    if goal[0] == "in":
        return nows <= set(goal[1])
    return [firsts & set(group) for group in goal[1] if firsts & set(group)] == [firsts]


def is_right(case, goal, told):
    """Tell whether a plan is right."""
    return is_right_at(Model(case), goal, Model(case).start, told)


def is_right_at(model, goal, belief, told):
    if told == ("end",):
        return is_met(goal, belief)
    word, button, branches = told
    found = model.press(belief, button)
    return (
        word == "press" and found is not None
        and [answer for answer, _ in branches] == [list(answer) for answer in sorted(found)]
        and all(is_right_at(model, goal, found[tuple(answer)], inner) for answer, inner in branches))


def depth_of(told):
    """Return the depth of a plan."""
    if told == ("end",):
        return 0
    return 1 + max([depth_of(inner) for _, inner in told[2]], default=0)


def total_of(case, told):
    """Return the total of a right plan."""
    return sum(len(presses_of(case, told, state)) for state in case.states)


def presses_of(case, told, state):
    """Return what a right plan does from a state."""
    model = Model(case)
    done = []
    while told != ("end",):
        state, answer = model.answer(state, told[1])
        done.append((told[1], list(answer)))
        told = {tuple(shown): inner for shown, inner in told[2]}[answer]
    return done


class Table:
    """For all beliefs of a case what each press leads to."""

    def __init__(self, case):
        self.model = Model(case)
        self.after = {}
        for belief in self.model.beliefs():
            found = [self.model.press(belief, button) for button in case.buttons]
            self.after[belief] = [list(beliefs.values()) for beliefs in found if beliefs is not None]

    def rounds(self, goal, cost):
        """Return for each number of presses the least costs within this depth, until no cost changes."""
        told = [{belief: 0 if is_met(goal, belief) else NEVER for belief in self.after}]
        while True:
            costs = told[-1]
            better = {
                belief: min([costs[belief]] + [
                    cost(belief, [costs[after] for after in afters]) for afters in self.after[belief]])
                for belief in self.after}
            if better == costs:
                return told
            told.append(better)

    def depths(self, goal):
        """Return for each belief the least depth of a plan from it, None if there is none."""
        costs = self.rounds(goal, lambda belief, costs: min(NEVER, 1 + max(costs)))[-1]
        return {belief: known(costs[belief]) for belief in costs}

    def least_depth(self, goal):
        """Return the least depth of a right plan, None if there is none."""
        return self.depths(goal)[self.model.start]

    def totals(self, goal):
        """Return for each depth the least total of a right plan of at most this depth, None if there is none."""
        rounds = self.rounds(goal, lambda belief, costs: min(NEVER, len(belief) + sum(costs)))
        return [known(costs[self.model.start]) for costs in rounds]

    def least_total(self, goal):
        """Return the least total of a right plan, None if there is none."""
        return self.totals(goal)[-1]


def known(cost):
    return None if cost == NEVER else cost


def advised(model, depths, belief):
    """Return the first button of a plan of the least depth from a belief, None if it has none or there is none."""
    if depths[belief] in (None, 0):
        return None
    for button in model.buttons:
        found = model.press(belief, button)
        if found is not None and keeps(depths, found):
            if 1 + max(depths[after] for after in found.values()) == depths[belief]:
                return button
    raise AssertionError("no press begins a plan")


def keeps(depths, found):
    """Tell whether there is a plan behind each answer."""
    return all(depths[after] is not None for after in found.values())


def is_closed(case, goal, told):
    """Tell whether a list of beliefs is closed."""
    model = Model(case)
    if not all(model.is_belief(belief) for belief in told):
        return False
    listed = [frozenset(belief) for belief in told]
    return (
        model.start in listed and len(set(listed)) == len(listed)
        and not any(is_met(goal, belief) for belief in listed)
        and all(
            any(after in listed for after in model.press(belief, button).values())
            for belief in listed for button in model.buttons if model.is_safe(belief, button)))


def answers_of(case, row, state):
    """Return the answers of a row from a state and the state after it, None if it does harm."""
    model = Model(case)
    answers = []
    for button in row:
        if button not in model.steps[state]:
            return None
        state, answer = model.answer(state, button)
        answers.append(answer)
    return answers, state


def spread_of(case, row):
    """Return the spread of a row, None if it does harm from a possible state."""
    runs = {state: answers_of(case, row, state) for state in case.states}
    if None in runs.values():
        return None
    beliefs = []
    for state in case.states:
        belief = [(first, runs[first][1]) for first in case.states if runs[first][0] == runs[state][0]]
        if belief not in beliefs:
            beliefs.append(belief)
    return sorted(beliefs)


def is_right_by_runs(case, goal, row):
    """Tell whether a row is right."""
    if not set(row) <= set(case.buttons):
        return False
    spread = spread_of(case, row)
    return spread is not None and all(is_met(goal, belief) for belief in spread)


def rows_up_to(case, length):
    """Return all rows of usable buttons of at most this length, in their order."""
    for size in range(length + 1):
        for row in itertools.product(case.buttons, repeat=size):
            yield list(row)


def is_closed_spreads(case, goal, told):
    """Tell whether a list of spreads is closed."""
    model = Model(case)
    for spread in told:
        firsts = sorted(first for belief in spread for first, _ in belief)
        if spread != sorted(spread) or firsts != case.states or not all(model.is_belief(belief) for belief in spread):
            return False
    start = [[(state, state) for state in case.states]]
    if start not in told or any(told.count(spread) > 1 for spread in told):
        return False
    for spread in told:
        beliefs = [frozenset(belief) for belief in spread]
        if all(is_met(goal, belief) for belief in beliefs):
            return False
        for button in model.buttons:
            if all(model.is_safe(belief, button) for belief in beliefs):
                found = [after for belief in beliefs for after in model.press(belief, button).values()]
                if sorted(sorted(belief) for belief in found) not in told:
                    return False
    return True
