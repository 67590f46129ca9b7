"""Cases: a device in an unknown state, its beliefs and goals."""

from surepresses.checks import check_buttons, check_lamps, check_state, is_index
from surepresses.errors import Harmful, InvalidBelief, InvalidGoal


class Case:
    """A device, its possible states, the watched lamps and the usable buttons; it never changes."""

    def __init__(self, device, states, *, lamps=None, buttons=None):
        for state in states:
            check_state(state, len(device))
        if lamps is not None:
            check_lamps(lamps, device.lamps)
        if buttons is not None:
            check_buttons(buttons, device.buttons)
        self._device = device
        self._states = sorted(set(states))
        self._lamps = chosen_names(device.lamps, lamps)
        self._buttons = chosen_names(device.buttons, buttons)

    @property
    def device(self):
        """The device."""
        return self._device

    @property
    def states(self):
        """The possible states, ascending."""
        return list(self._states)

    @property
    def lamps(self):
        """The watched lamps, in the order of the device."""
        return list(self._lamps)

    @property
    def buttons(self):
        """The usable buttons, in the order of the device."""
        return list(self._buttons)

    @property
    def start(self):
        """The start belief."""
        return [(state, state) for state in self._states]

    def __eq__(self, other):
        return (
            isinstance(other, Case)
            and self._device == other._device
            and self._states == other._states
            and self._lamps == other._lamps
            and self._buttons == other._buttons
        )

    def safe_buttons(self, belief):
        """Return the usable buttons that are safe at a belief, in the order of the device."""
        check_belief(self, belief)
        return [button for button in self._buttons if is_safe_at(self._device, belief, button)]

    def next_beliefs(self, belief, button):
        """Return (answer, belief after it) for each possible answer of a press, ascending by the answers."""
        check_belief(self, belief)
        check_buttons([button], self._buttons)
        if not is_safe_at(self._device, belief, button):
            raise Harmful(button)
        found = {}
        for first, now in belief:
            after, shining = self._device.step(now, button)
            answer = tuple([lamp for lamp in self._lamps if lamp in shining])
            found.setdefault(answer, []).append((first, after))
        return [(list(answer), found[answer]) for answer in sorted(found)]

    def meets(self, belief, goal):
        """Tell whether a belief meets a goal."""
        check_belief(self, belief)
        check_goal(self, goal)
        return is_met_by(goal, belief)

    def with_lamps(self, lamps):
        """Return the case with other watched lamps, all if None."""
        return Case(self._device, self._states, lamps=lamps, buttons=self._buttons)

    def with_buttons(self, buttons):
        """Return the case with other usable buttons, all if None."""
        return Case(self._device, self._states, lamps=self._lamps, buttons=buttons)


def chosen_names(names, wished):
    """Return those of the names that are wished, all if the wish is None, in their own order."""
    if wished is None:
        return list(names)
    return [name for name in names if name in wished]


def check_belief(case, belief):
    """Raise the error of a list that is no belief of a case."""
    if not is_belief(case, belief):
        raise InvalidBelief(list(belief))


def is_belief(case, belief):
    """Tell whether a list of tuples of two integers is a belief of a case."""
    firsts = [first for first, _ in belief]
    # Tuples whose first entries ascend, none of them twice, ascend themselves.
    if firsts == [] or firsts != sorted(set(firsts)):
        return False
    states = case.states
    count = len(case.device)
    return all([first in states and is_index(now, count) for first, now in belief])


def is_safe_at(device, belief, button):
    """Tell whether a button has a step in each state of a belief."""
    return all([device.step(now, button) is not None for _, now in belief])


def check_goal(case, goal):
    """Raise the error of a tuple that is no goal of a case."""
    if not is_goal(case, goal):
        raise InvalidGoal(tuple([copied(entry) for entry in goal]))


def copied(entry):
    """Return an entry of a goal, a list as a new one with new lists in it."""
    if isinstance(entry, list):
        return [copied(inner) for inner in entry]
    return entry


def is_goal(case, goal):
    """Tell whether a tuple is a goal of a case."""
    if goal in (("now",), ("first",)):
        return True
    if len(goal) != 2:
        return False
    if goal[0] == "group":
        placed = [state for group in goal[1] for state in group]
        return all([placed.count(state) == 1 for state in case.states])
    if goal[0] == "in":
        count = len(case.device)
        return all([is_index(state, count) for state in goal[1]])
    return False


def is_met_by(goal, belief):
    """Tell whether a goal of a case is met by a belief of it."""
    if goal[0] == "now":
        return all([now == belief[0][1] for _, now in belief])
    if goal[0] == "first":
        return len(belief) == 1
    if goal[0] == "in":
        return all([now in goal[1] for _, now in belief])
    firsts = [first for first, _ in belief]
    return any([holds_all(group, firsts) for group in goal[1]])


def holds_all(group, firsts):
    """Tell whether all first states stand in a group."""
    return all([first in group for first in firsts])
