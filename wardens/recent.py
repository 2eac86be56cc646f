"""The last readings: what can be said of a run by one who remembers only so many of them.

R is not kept if two runs show it: one that has met R for long enough, and one that has not met it, whose
last readings are the same. Their last pairs of tracked states are a row of pairs that share a reading;
from some pair on all of them hide R.
"""

from wardens.graphs import ahead_of, distances_to, longest_from
from wardens.judging import judge, set_after, verdict_of
from wardens.pairing import hiding, sharing_graph
from wardens.readings import can_show


def recent_judge(plant, tracked, row, memory):
    """Returns the verdict with a memory of so many readings, for a list or tuple of readings."""
    if len(row) < memory:
        return judge(plant, tracked, row)
    last = row[len(row) - memory:]
    # Whatever came before, each tracked state can be that of the first of the last readings.
    members = [number for number, mark in enumerate(tracked[0]) if can_show(plant, mark[0], last[0])]
    for reading in last[1:]:
        members = set_after(plant, tracked, members, reading)
    return verdict_of(tracked, members)


def recent_delay(plant, tracked, memory, most):
    """Returns the least number of ticks within which R is kept with a memory, or None.

    Tracked is that of ("once", R).
    """
    dangers = dangers_of(plant, tracked, most)
    # A run through the tracked states comes to an age beyond their number on a round only.
    for ticks in range(memory + len(tracked[0]) + 1):
        if is_kept(dangers, memory, ticks):
            return ticks
    return None


def least_memory(plant, tracked, ticks, most):
    """Returns the least memory with which R is kept within so many ticks, or None.

    Tracked is that of ("once", R).
    """
    dangers = dangers_of(plant, tracked, most)
    # A row of pairs has more of them than there are on a round only.
    longest = ticks + len(tracked[0]) * len(tracked[0]) + 1
    if not is_kept(dangers, longest, ticks):
        return None
    memory = 1
    while not is_kept(dangers, memory, ticks):
        memory += 1
    return memory


def is_kept(dangers, memory, ticks):
    """Returns whether R is kept with a memory within so many ticks."""
    return not any([breaks(danger, memory, ticks) for danger in dangers])


def breaks(danger, memory, ticks):
    """Returns whether some runs whose last pairs are those of a danger show that R is not kept."""
    ahead, behind, age = danger
    if ticks < memory:
        return reaches(ahead, ticks + 1) and reaches(behind, memory - ticks)
    return reaches(ahead, memory) and reaches(age, ticks - memory + 1)


def reaches(number, least):
    """Returns whether a number, or None for one without an end, is at least the other one."""
    return number is None or number >= least


def dangers_of(plant, tracked, most):
    """Returns the list of the dangers, one for each kind of hiding pairs that share a reading.

    A danger says how many pairs can follow in a row that all hide R, the first one included; how many pairs
    can come before in a row, the last one included, so that the second run has not met R; and for how many
    ticks the first run can have met R already. None stands for any number.
    """
    pairs, starts, steps = sharing_graph(plant, tracked, most)
    hides = hiding(tracked, pairs)
    ahead = longest_from(steps, hides)
    behind = behind_pairs(tracked, pairs, starts, steps)
    ages = longest_from(ahead_of(tracked[2]), tracked[3])
    dangers = {}
    for number, (first, _) in enumerate(pairs):
        if hides[number]:
            age = None if ages[first] is None else ages[first] - 1
            dangers[(ahead[number], behind[number], age)] = True
    return list(dangers)


def behind_pairs(tracked, pairs, starts, steps):
    """Returns for each pair how many pairs can come before in a row, as dangers_of says."""
    steps_back = ahead_of(steps)
    behind = longest_from(steps_back, [not tracked[3][second] for _, second in pairs])
    first = {number: True for number in starts}
    begun = distances_to(steps_back, [number in first for number in range(len(pairs))])
    # To twins two whole runs lead, however few their ticks, and so with any memory nothing came before.
    return [None if ticks is not None else count for ticks, count in zip(begun, behind)]
