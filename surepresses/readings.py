"""Reading devices and plans from their texts.

A text is taken apart loosely, so that other texts may give the same value; then the value is shown
again, and only the text that comes back is the text of it.
"""

from surepresses.checks import is_name
from surepresses.devices import Device
from surepresses.errors import PressError, Unreadable
from surepresses.texts import show_device, show_plan

# An index has at most two digits, so there are at most 100 states.
MOST_DIGITS = 2
MOST_STATES = 100
MOST_PRESSES_ON_A_WAY = 100


def read_device(text):
    """Return the device with a text."""
    device = device_from(text.split(" | "))
    if device is None or show_device(device) != text:
        raise Unreadable(text)
    return device


def device_from(parts):
    """Return the device that the parts of a text give, None if they give none."""
    states = [steps_from(part) for part in parts[2:]]
    if states == [] or len(states) > MOST_STATES or None in states:
        return None
    buttons, lamps = [part.split(" ")[1:] for part in parts[:2]]
    try:
        return Device(buttons, lamps, states)
    except PressError:
        return None


def steps_from(part):
    """Return the dict of steps that the part of a state gives, None if it gives none."""
    _, _, told = part.partition(":")
    if told == "":
        return {}
    steps = {}
    for step in told.split(","):
        words = step.split(" ")
        if len(words) < 3 or not is_short_number(words[2]):
            return None
        steps[words[1]] = (int(words[2]), words[3:])
    return steps


def is_short_number(word):
    """Tell whether a word consists of digits, and of no more than an index has."""
    return len(word) <= MOST_DIGITS and word.isdigit()


def read_plan(text):
    """Return the plan with a text."""
    told = plan_from(text)
    if told is None or show_plan(told) != text:
        raise Unreadable(text)
    return told


def plan_from(text):
    """Return the plan that a text gives, None if it gives none."""
    # The whole plan is read as if it stood behind an answer, in a list of branches of its own.
    outer = []
    opened = [outer]
    for piece in ("] " + text).split("["):
        inside, _, rest = piece.partition("] ")
        answer = inside.split()
        button, brace, _ = rest.partition(" {")
        if not all([is_name(name) for name in (answer + [button] if brace else answer)]):
            return None
        branches = []
        opened[-1].append((answer, ("press", button, branches) if brace else ("end",)))
        if brace:
            opened.append(branches)
        closing = rest.count("}")
        if len(opened) > MOST_PRESSES_ON_A_WAY + 1 or closing >= len(opened):
            return None
        opened = opened[:len(opened) - closing]
    return outer[0][1]
