"""Checks of arguments that several files of the package share."""

from surepresses.errors import DoubleName, InvalidName, InvalidState, UnknownButton, UnknownLamp

LETTERS = "abcdefghijklmnopqrstuvwxyz"
LONGEST_NAME = 8


def is_index(number, count):
    """Tell whether a number is an index of a list with so many entries."""
    return 0 <= number < count


def is_name(text):
    """Tell whether a string is a name."""
    return 1 <= len(text) <= LONGEST_NAME and all([letter in LETTERS for letter in text])


def check_names(names):
    """Raise the error of the first entry that is no name or stood before."""
    before = {}
    for name in names:
        if not is_name(name):
            raise InvalidName(name)
        if name in before:
            raise DoubleName(name)
        before[name] = True


def check_state(state, count):
    """Raise the error of a number that is none of so many states."""
    if not is_index(state, count):
        raise InvalidState(state)


def check_buttons(buttons, known):
    """Raise the error of the first button that is not a known one."""
    for button in buttons:
        if button not in known:
            raise UnknownButton(button)


def check_lamps(lamps, known):
    """Raise the error of the first lamp that is not a known one."""
    for lamp in lamps:
        if lamp not in known:
            raise UnknownLamp(lamp)
