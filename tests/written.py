"""Another way to the texts of devices and plans: by the words of the document, with regular expressions."""

import re

from surepresses.devices import Device

NAME = "[a-z]{1,8}"
NUMBER = "(?:0|[1-9][0-9]?)"
STEP = f" ({NAME}) ({NUMBER})((?: {NAME})*)"
STEPS = re.sub(r"\((?!\?)", "(?:", f"(?:{STEP}(?:,{STEP})*)?")
STATE = f" \\| ({NUMBER}):({STEPS})"
DEVICE = f"buttons((?: {NAME})*) \\| lamps((?: {NAME})*)((?:{STATE})+)"
BRANCH = re.compile(f"\\[((?:{NAME}(?: {NAME})*)?)\\] ")
HEAD = re.compile(f"({NAME}) {{")


def text_of_device(device):
    """Return the text of a device."""
    text = "buttons" + "".join(" " + name for name in device.buttons)
    text += " | lamps" + "".join(" " + name for name in device.lamps)
    for state, steps in enumerate(device.states):
        text += f" | {state}:"
        for place, (button, after, lamps) in enumerate(steps):
            text += f" {button} {after}" + "".join(" " + lamp for lamp in lamps)
            text += "," if place < len(steps) - 1 else ""
    return text


def ascending(names, order):
    """Tell whether some names stand in an order, each of them once at most."""
    return set(names) <= set(order) and [name for name in order if name in names] == list(names)


def device_of(text):
    """Return the device with a text, None if there is none."""
    found = re.fullmatch(DEVICE, text)
    if found is None:
        return None
    buttons, lamps = found[1].split(), found[2].split()
    states = re.findall(STATE, found[3])
    if len(set(buttons)) < len(buttons) or len(set(lamps)) < len(lamps):
        return None
    if [index for index, *_ in states] != [str(state) for state in range(len(states))]:
        return None
    told = []
    for _, row, *_ in states:
        steps = [(button, int(after), on.split()) for button, after, on in re.findall(STEP, row)]
        if not ascending([button for button, _, _ in steps], buttons):
            return None
        if not all(after < len(states) and ascending(on, lamps) for _, after, on in steps):
            return None
        told.append({button: (after, on) for button, after, on in steps})
    return Device(buttons, lamps, told)


def text_of_plan(told):
    """Return the text of a plan that is not too deep for calls of calls."""
    if told == ("end",):
        return "end"
    branches = ["[" + " ".join(answer) + "] " + text_of_plan(inner) for answer, inner in told[2]]
    return told[1] + " {" + "; ".join(branches) + "}"


def plan_of(text):
    """Return the plan with a text that is not too deep for calls of calls, None if there is none."""
    try:
        told, at = plan_at(text, 0)
    except SyntaxError:
        return None
    return told if at == len(text) else None


def plan_at(text, at):
    """Return the plan at a place of a text and the place behind it."""
    head = HEAD.match(text, at)
    if head is None:
        return ("end",), behind(text, at, "end")
    branches, at = [], head.end()
    while not text.startswith("}", at):
        shown = BRANCH.match(text, behind(text, at, "; ") if branches else at)
        if shown is None:
            raise SyntaxError
        inner, at = plan_at(text, shown.end())
        branches.append((shown[1].split(), inner))
    return ("press", head[1], branches), at + 1


def behind(text, at, wanted):
    """Return the place behind a string that stands at a place."""
    if not text.startswith(wanted, at):
        raise SyntaxError
    return at + len(wanted)


def edited(rng, text):
    """Return a text with one or two places changed."""
    for _ in range(rng.choice([1, 1, 2])):
        at = rng.randrange(len(text) + 1)
        to = min(len(text), at + rng.choice([1, 1, 1, 2, 3, 6]))
        sign = rng.choice([" ", ",", ":", "|", "{", "}", "[", "]", ";", "0", "1", "2", "9", "a", "b", "x", "y", "E"])
        kind = rng.randrange(6)
        if kind == 0:
            text = text[:at] + text[to:]
        elif kind == 1:
            text = text[:at] + sign + text[at:]
        elif kind == 2:
            text = text[:at] + sign + text[to:]
        elif kind == 3:
            text = text[:at] + text[at:to] * 2 + text[to:]
        elif kind == 4:
            other = rng.randrange(len(text) + 1)
            text = text[:other] + text[at:to] + text[other:]
        else:
            words = text.split(" ")
            place, other = rng.randrange(len(words)), rng.randrange(len(words))
            words[place], words[other] = words[other], words[place]
            text = " ".join(words)
    return text
