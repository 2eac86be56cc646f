"""Tracked states: the states of a plant, together with what a requirement has to remember."""

from wardens.errors import NotARun, TooMany
from wardens.facts import label
from wardens.graphs import shortest_way
from wardens.memory import facts_in, first_memory, meets, next_memory
from wardens.unfolding import is_run


def track(machine, requirement, most):
    """Returns the tracked machine of a requirement. Raises TooMany if it has more than `most` tracked states."""
    states, starts, steps = machine
    holds = holds_in_states(machine, requirement)
    pairs = [(state, first_memory(requirement, holds[state])) for state in starts]
    numbers = {pair: number for number, pair in enumerate(pairs)}
    tracked_starts = tuple(range(len(pairs)))
    tracked_steps = []
    # Many steps change the memory in the same way, which takes longer to find out than to look up.
    memories = {}
    while len(tracked_steps) < len(pairs):
        if len(pairs) > most:
            raise TooMany("pairs")
        state, memory = pairs[len(tracked_steps)]
        row = []
        for later in steps[state]:
            change = (memory, holds[later])
            if change not in memories:
                memories[change] = next_memory(requirement, memory, holds[later])
            pair = (later, memories[change])
            if pair not in numbers:
                numbers[pair] = len(pairs)
                pairs.append(pair)
            row.append(numbers[pair])
        tracked_steps.append(tuple(row))
    marks = tuple([(states[state], memory) for state, memory in pairs])
    met = tuple([meets(requirement, memory) for _, memory in pairs])
    return (marks, tracked_starts, tuple(tracked_steps), met)


def evaluate(plant, machine, requirement, run):
    """Returns a list with a truth value for each tick of a run: whether the requirement holds up to there."""
    if not is_run(plant, run):
        raise NotARun("these values are not a run of the plant")
    numbers = {values: number for number, values in enumerate(machine[0])}
    holds = holds_in_states(machine, requirement)
    memory = None
    truths = []
    for values in run:
        now = holds[numbers[tuple(values)]]
        if memory is None:
            memory = first_memory(requirement, now)
        else:
            memory = next_memory(requirement, memory, now)
        truths.append(meets(requirement, memory))
    return truths


def shortest_run(tracked, wanted):
    """Returns a shortest run after which the requirement holds, or does not hold, as wanted; None without one."""
    marks, starts, steps, met = tracked
    way = shortest_way(starts, steps, [truth == wanted for truth in met])
    if way is None:
        return None
    return [marks[number][0] for number in way]


def holds_in_states(machine, requirement):
    """Returns for each state the tuple of the truth values of the requirement's facts."""
    truths = [label(machine, fact) for fact in facts_in(requirement)]
    return [tuple([row[state] for row in truths]) for state in range(len(machine[0]))]
