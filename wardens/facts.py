"""The states in which a fact holds."""

from wardens.graphs import distances_to, ranks_of
from wardens.terms import is_true


def label(machine, fact):
    """Returns a list with a truth value for each state: whether the fact holds in it."""
    states, _, steps = machine
    word = fact[0]
    if word == "holds":
        return [is_true(fact[1], values) for values in states]
    truths = label(machine, fact[-1])
    if word == "not":
        return [not truth for truth in truths]
    if word == "and":
        return [left and right for left, right in zip(label(machine, fact[1]), truths)]
    if word == "or":
        return [left or right for left, right in zip(label(machine, fact[1]), truths)]
    if word == "next":
        return [any([truths[later] for later in row]) for row in steps]
    ticks = ticks_until(word, steps, truths)
    if word in ("can", "must"):
        return [number is not None for number in ticks]
    return [number is not None and number <= fact[1] for number in ticks]


def ticks_until(word, steps, truths):
    """Returns for each state the least k with which `canin` or `mustin` holds there, or None without one."""
    if word in ("can", "canin"):
        return distances_to(steps, truths)
    return ranks_of(steps, truths, [len(row) for row in steps])
