"""Devices, and what tells their states apart."""

from surepresses.checks import check_buttons, check_lamps, check_names, check_state, is_index
from surepresses.errors import Harmful, InvalidStep, UnlikeDevices


class Device:
    """A device with buttons, lamps and states; it never changes."""

    def __init__(self, buttons, lamps, states):
        check_names(buttons)
        check_names(lamps)
        for state, steps in enumerate(states):
            check_steps(buttons, lamps, len(states), state, steps)
        self._buttons = list(buttons)
        self._lamps = list(lamps)
        self._steps = [kept_steps(lamps, steps) for steps in states]

    @property
    def buttons(self):
        """The buttons, in order."""
        return list(self._buttons)

    @property
    def lamps(self):
        """The lamps, in order."""
        return list(self._lamps)

    @property
    def states(self):
        """For each state the list of its steps (button, next state, lamps on)."""
        return [
            [(button, steps[button][0], list(steps[button][1])) for button in self._buttons if button in steps]
            for steps in self._steps
        ]

    def __len__(self):
        return len(self._steps)

    def __eq__(self, other):
        return (
            isinstance(other, Device)
            and self._buttons == other._buttons
            and self._lamps == other._lamps
            and self._steps == other._steps
        )

    def step(self, state, button):
        """Return the tuple of the next state and the tuple of the lamps on, None for a harmful press."""
        return self._steps[state].get(button)

    def run(self, state, row):
        """Return the state after a row, and the lists of lamps that are on after its presses."""
        check_state(state, len(self._steps))
        check_buttons(row, self._buttons)
        shown = []
        for index, button in enumerate(row):
            taken = self.step(state, button)
            if taken is None:
                raise Harmful(index)
            state, lamps = taken
            shown.append(list(lamps))
        return state, shown

    def is_safe(self, state, row):
        """Tell whether a row does no harm from a state."""
        check_state(state, len(self._steps))
        check_buttons(row, self._buttons)
        for button in row:
            taken = self.step(state, button)
            if taken is None:
                return False
            state = taken[0]
        return True


def check_steps(buttons, lamps, count, state, steps):
    """Raise the error of the first wrong step of a state, among so many states."""
    for button in sorted(steps):
        check_buttons([button], buttons)
        after, shining = steps[button]
        if not is_index(after, count):
            raise InvalidStep((state, button))
        check_lamps(shining, lamps)


def kept_steps(lamps, steps):
    """Return the steps of a state in the one form that a device keeps of them."""
    kept = {}
    for button in steps:
        after, shining = steps[button]
        kept[button] = (after, tuple([lamp for lamp in lamps if lamp in shining]))
    return kept


def parting_row(device, one, other):
    """Return the first row that is safe from two states and shows them apart, None if there is none."""
    check_state(one, len(device))
    check_state(other, len(device))
    start = pair_of(one, other)
    came = {start: None}
    level = [start]
    # Level by level, each in the order of its rows: so each pair is reached by its first row,
    # and the first press found to part a pair ends the first row.
    while level:
        following = []
        for pair in level:
            for button, parts, after in pair_steps(device, pair):
                if parts:
                    return row_to(came, pair) + [button]
                if after[0] != after[1] and after not in came:
                    came[after] = (pair, button)
                    following.append(after)
        level = following
    return None


def pair_of(one, other):
    """Return the tuple of two states, the lesser one first."""
    return (min(one, other), max(one, other))


def pair_steps(device, pair):
    """Return (button, whether its lamps differ, pair after it) for each button that is safe in both states."""
    found = []
    for button in device.buttons:
        first = device.step(pair[0], button)
        second = device.step(pair[1], button)
        if first is not None and second is not None:
            found.append((button, first[1] != second[1], pair_of(first[0], second[0])))
    return found


def row_to(came, pair):
    """Return the row to a pair, from a dict of the pair and the button before each pair."""
    row = []
    while came[pair] is not None:
        pair, button = came[pair]
        row.append(button)
    return row[::-1]


def alike_states(device):
    """Return the ascending list of the pairs of states that no row shows apart."""
    pairs = [(one, other) for one in range(len(device)) for other in range(one + 1, len(device))]
    parted = parted_pairs(device, pairs)
    return [pair for pair in pairs if pair not in parted]


def parted_pairs(device, pairs):
    """Return a dict whose keys are the pairs that some row shows apart."""
    parted = {}
    sources = {pair: [] for pair in pairs}
    for pair in pairs:
        for _, parts, after in pair_steps(device, pair):
            if parts:
                parted[pair] = True
            elif after[0] != after[1]:
                sources[after].append(pair)
    # Backwards from the pairs that one press parts, so that no pair is searched from anew.
    waiting = list(parted)
    while waiting:
        reached = waiting.pop()
        for pair in sources[reached]:
            if pair not in parted:
                parted[pair] = True
                waiting.append(pair)
    return parted


def together(devices):
    """Return the device that has the states of all devices, those of the first one first."""
    check_like(devices)
    states = []
    for device in devices:
        moved = len(states)
        states.extend([moved_steps(steps, moved) for steps in device.states])
    return Device(devices[0].buttons, devices[0].lamps, states)


def moved_steps(steps, moved):
    """Return the dict of a state's steps, with next states that many further on."""
    return {button: (after + moved, lamps) for button, after, lamps in steps}


def groups_of(devices):
    """Return for each device the list of its states in the device of all together."""
    check_like(devices)
    groups = []
    begin = 0
    for device in devices:
        groups.append(list(range(begin, begin + len(device))))
        begin = begin + len(device)
    return groups


def check_like(devices):
    """Raise the error of the first device whose buttons or lamps are not those of the first one."""
    for index, device in enumerate(devices):
        if device.buttons != devices[0].buttons or device.lamps != devices[0].lamps:
            raise UnlikeDevices(index)
