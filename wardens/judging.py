"""Verdicts: what all runs that fit the readings agree on."""

from wardens.readings import can_show


def set_after(plant, tracked, members, reading):
    """Returns the set after one more reading; members is the set before it, or None before the first one."""
    marks = tracked[0]
    return [number for number in members_after(tracked, members) if can_show(plant, marks[number][0], reading)]


def members_after(tracked, members):
    """Returns the set after one more tick of which no reading is known, likewise."""
    _, starts, steps, _ = tracked
    if members is None:
        return sorted(starts)
    return sorted(set([later for member in members for later in steps[member]]))


def verdict_of(tracked, members):
    """Returns the verdict of a set, or of None before the first reading."""
    if members is None or len(members) == 0:
        return "impossible"
    met = [tracked[3][member] for member in members]
    if all(met):
        return "sure"
    if any(met):
        return "unknown"
    return "never"


def judge(plant, tracked, row):
    """Returns the verdict of a list or tuple of readings."""
    members = None
    for reading in row:
        members = set_after(plant, tracked, members, reading)
    return verdict_of(tracked, members)
