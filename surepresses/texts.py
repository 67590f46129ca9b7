"""The texts of devices and plans."""


def show_device(device):
    """Return the text of a device."""
    heads = [" ".join(["buttons"] + device.buttons), " ".join(["lamps"] + device.lamps)]
    return " | ".join(heads + [show_state(state, steps) for state, steps in enumerate(device.states)])


def show_state(state, steps):
    """Return the text of a state with its steps (button, next state, lamps on)."""
    texts = [" " + " ".join([button, str(after)] + lamps) for button, after, lamps in steps]
    return f"{state}:" + ",".join(texts)


def show_plan(told):
    """Return the text of a plan."""
    shown = []
    # Texts and plans that are still to be shown, the next one last: so the depth of a plan is no depth of calls.
    waiting = [told]
    while waiting:
        part = waiting.pop()
        if isinstance(part, str):
            shown.append(part)
        else:
            waiting.extend(parts_of(part)[::-1])
    return "".join(shown)


def parts_of(told):
    """Return the texts and plans of which the text of a plan consists, in order."""
    if told[0] == "end":
        return ["end"]
    _, button, branches = told
    parts = [button, " {"]
    for place, (answer, inner) in enumerate(branches):
        lamps = " ".join(answer)
        parts.extend([f"[{lamps}] " if place == 0 else f"; [{lamps}] ", inner])
    return parts + ["}"]
