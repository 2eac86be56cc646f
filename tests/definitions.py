"""Points [33], [36], [37], [40] and [41], word for word and without regard to time, for tests to compare with.

A history of a requirement is a list with, for each tick of a run, the list of the truth values of its facts.
"""

import itertools

from wardens.facts import label
from wardens.memory import facts_in
from wardens.moves import next_values
from wardens.readings import can_show, readings_at
from wardens.unfolding import first_values


def fact_count(requirement):
    return len(facts_in(requirement))


def split(requirement, history):
    """The histories of the two parts of a requirement."""
    count = fact_count(requirement[1])
    return [tick[:count] for tick in history], [tick[count:] for tick in history]


def holds_after(requirement, history):
    """Point [36]: whether a requirement holds after a run."""
    word = requirement[0]
    if word == "fact":
        return history[-1][0]
    if word == "not":
        return not holds_after(requirement[1], history)
    if word == "before":
        return len(history) >= 2 and holds_after(requirement[1], history[:-1])
    if word in ("once", "oncein"):
        most = requirement[1] if word == "oncein" else len(history)
        return any(holds_after(requirement[-1], history[:len(history) - n])
                   for n in range(len(history)) if n <= most)
    left, right = split(requirement, history)
    if word == "and":
        return holds_after(requirement[1], left) and holds_after(requirement[2], right)
    if word == "or":
        return holds_after(requirement[1], left) or holds_after(requirement[2], right)
    ticks = len(history)
    return any(
        holds_after(requirement[2], right[:ticks - n])
        and all(holds_after(requirement[1], left[:ticks - m]) for m in range(n))
        for n in range(ticks)
    )


def memory_after(requirement, history):
    """Point [37]: the memory of a requirement after a run."""
    word = requirement[0]
    if word == "fact":
        return (history[-1][0],)
    if word == "not":
        return memory_after(requirement[1], history)
    if word in ("and", "or", "since"):
        left, right = split(requirement, history)
        parts = memory_after(requirement[1], left) + memory_after(requirement[2], right)
        return (holds_after(requirement, history),) + parts if word == "since" else parts
    if word == "oncein":
        ticks = len(history)
        held = [n for n in range(ticks) if holds_after(requirement[2], history[:ticks - n])]
        return (min(held + [requirement[1] + 1]),) + memory_after(requirement[2], history)
    return (holds_after(requirement, history),) + memory_after(requirement[1], history)


def history_of(machine, requirement, numbers):
    """The history of a run through the states with these numbers."""
    truths = [label(machine, fact) for fact in facts_in(requirement)]
    return [[row[number] for row in truths] for number in numbers]


def runs_of(plant, ticks):
    """All runs of so many ticks, in the order of their values' places."""
    runs = [[values] for values in first_values(plant)]
    for _ in range(ticks - 1):
        runs = [run + [later] for run in runs for later in next_values(plant, run[-1], 1000)]
    return runs


def verdict_by_runs(plant, machine, requirement, row):
    """Point [40]: the verdict of a row."""
    truths = []
    for run in runs_of(plant, len(row)) if row else []:
        if all(can_show(plant, values, reading) for values, reading in zip(run, row)):
            numbers = [machine[0].index(values) for values in run]
            truths.append(holds_after(requirement, history_of(machine, requirement, numbers)))
    if not truths:
        return "impossible"
    if all(truths):
        return "sure"
    return "unknown" if any(truths) else "never"


def shares(plant, values, other):
    """Point [51], the first words: whether some reading is possible for both."""
    return any(can_show(plant, other, reading) for reading in readings_at(plant, values))


def twin_runs(plant, ticks):
    """All pairs of runs of so many ticks that share a reading at each tick."""
    runs = runs_of(plant, ticks)
    return [(one, other) for one in runs for other in runs
            if all(shares(plant, values, later) for values, later in zip(one, other))]


def walk_of(machine, tracked, requirement, run):
    """The numbers of the tracked states of a run, one for each tick."""
    history = history_of(machine, requirement, [machine[0].index(values) for values in run])
    marks = [(values, memory_after(requirement, history[:tick + 1])) for tick, values in enumerate(run)]
    return [tracked[0].index(mark) for mark in marks]


def rows_over(readings, longest):
    """All rows of readings up to a length, shorter ones first."""
    return [list(row) for length in range(longest + 1) for row in itertools.product(readings, repeat=length)]


def reached_nodes(monitor, node):
    """The nodes of a monitor that a node reaches, breadth first; itself is the first of them."""
    found = [node]
    for earlier in found:
        for later in monitor[3][earlier]:
            if later not in found:
                found.append(later)
    return found


def met_at(machine, requirement, run):
    """Whether a requirement holds at each tick of a run."""
    history = history_of(machine, requirement, [machine[0].index(values) for values in run])
    return [holds_after(requirement, history[:tick + 1]) for tick in range(len(run))]


def hidden_pairs(plant, machine, requirement, ticks, longest):
    """Point [55]: all hidden runs with the fewest ticks, if these are at most so many."""
    for length in range(ticks + 1, longest + 1):
        runs = [(run, met_at(machine, requirement, run)) for run in runs_of(plant, length)]
        late = [run for run, met in runs if any(met[:length - ticks])]
        never = [run for run, met in runs if not any(met)]
        found = [(one, other) for one in late for other in never
                 if all(shares(plant, values, later) for values, later in zip(one, other))]
        if found:
            return found
    return []


def doubted(plant, machine, requirement, ticks, longest):
    """Point [57]: whether two runs of at most so many ticks show that a requirement is not known within some."""
    for length in range(ticks + 1, longest + 1):
        for one, other in twin_runs(plant, length):
            before = length - 1 - ticks
            if met_at(machine, requirement, one)[before] != met_at(machine, requirement, other)[before]:
                return True
    return False


def recent_verdict(plant, machine, requirement, row, memory, longest):
    """Points [59] and [60]: the verdict with a memory, from runs of at most so many ticks."""
    last = row[-memory:]
    lengths = [len(row)] if len(row) < memory else range(memory, longest + 1)
    truths = []
    for length in lengths if row else []:
        for run in runs_of(plant, length):
            if all(can_show(plant, values, reading) for values, reading in zip(run[-len(last):], last)):
                truths.append(met_at(machine, requirement, run)[-1])
    if not truths:
        return "impossible"
    if all(truths):
        return "sure"
    return "unknown" if any(truths) else "never"


def forgotten(plant, machine, requirement, memory, ticks, longest):
    """Point [61]: whether runs of at most so many ticks show that R is not kept with a memory within some ticks."""
    runs = [(run, met_at(machine, requirement, run)) for length in range(1, longest + 1)
            for run in runs_of(plant, length)]
    never = {tuple(run[-memory:]): True for run, met in runs if not any(met) and len(run) >= memory}
    whole = {tuple(run): True for run, met in runs if not any(met)}
    for run, met in runs:
        if any(met[:max(len(run) - ticks, 0)]):
            for other in never if len(run) >= memory else whole:
                last = run[-memory:]
                if len(other) == len(last) and all(shares(plant, *both) for both in zip(last, other)):
                    return True
    return False


def two_steps(plant, tracked):
    """Points [51] and [52]: the pairs at the first tick, and a dict with those behind each pair, in order."""
    marks, starts, steps, _ = tracked
    near = {(a, b) for a in range(len(marks)) for b in range(len(marks)) if shares(plant, marks[a][0], marks[b][0])}
    begin = sorted((a, b) for a in starts for b in starts if (a, b) in near)
    return begin, {(a, b): sorted((c, d) for c in steps[a] for d in steps[b] if (c, d) in near) for a, b in near}


def first_row(begin, steps, wanted, longest):
    """The first shortest row of pairs that begins with some and ends in a wanted one; None beyond a length."""
    rows = [[pair] for pair in begin]
    for _ in range(longest):
        ends = [row for row in rows if wanted(row[-1])]
        if ends:
            return ends[0]
        rows = [row + [later] for row in rows for later in steps[row[-1]]]
    return None


def behind(pairs, steps):
    """All pairs to which any number of two steps lead from some pairs, themselves included."""
    found = list(pairs)
    for pair in found:
        found.extend(later for later in steps[pair] if later not in found)
    return found


def never_told_apart(plant, tracked, longest):
    """Point [56]: the way and the round as rows of pairs, None for one with more than so many; or None."""
    begin, steps = two_steps(plant, tracked)
    met = tracked[3]
    hides = [(a, b) for a, b in behind(begin, steps) if met[a] and not met[b]]
    hiding = {pair: [later for later in steps[pair] if later in hides] for pair in hides}
    round_ends = [pair for pair in hides if pair in behind(hiding[pair], hiding)]
    if not round_ends:
        return None
    way = first_row(begin, steps, lambda pair: pair in round_ends, longest)
    if way is None:
        return None, None
    return way, first_row(hiding[way[-1]], hiding, lambda pair: pair == way[-1], longest)
