"""The states of a plant, and its runs."""

from wardens.boxes import is_in, size_of, tuples_in
from wardens.errors import TooMany
from wardens.graphs import ahead_of
from wardens.moves import count_next, leads_to, next_values


def count_first(plant):
    """Returns the number of first values."""
    return size_of(first_box(plant))


def first_values(plant):
    """Returns the list of the first values in order."""
    return tuples_in(first_box(plant))


def first_box(plant):
    """Returns the box of the first values."""
    return [(first_least, first_greatest) for _, _, _, first_least, first_greatest in plant[0]]


def first_up_to(plant, most):
    """Returns the list of the first values. Raises TooMany if there are more than `most`."""
    if count_first(plant) > most:
        raise TooMany("states")
    return first_values(plant)


def next_up_to(plant, values, most):
    """Returns the list of the next values. Raises TooMany if there are more than `most`."""
    if count_next(plant, values, most) > most:
        raise TooMany("states")
    return next_values(plant, values, most)


def unfold(plant, most):
    """Returns the machine of a plant. Raises TooMany if more than `most` values can be reached."""
    states = first_up_to(plant, most)
    starts = tuple(range(len(states)))
    numbers = {values: number for number, values in enumerate(states)}
    steps = []
    while len(steps) < len(states):
        row = []
        for later in next_up_to(plant, states[len(steps)], most):
            if later not in numbers:
                numbers[later] = len(states)
                states.append(later)
            row.append(numbers[later])
        steps.append(tuple(row))
        if len(states) > most:
            raise TooMany("states")
    return (tuple(states), starts, tuple(steps))


def is_run(plant, run):
    """Returns True if a list or tuple of tuples or lists of integers is a run, otherwise False."""
    if len(run) == 0:
        return False
    if any([len(values) != len(plant[0]) for values in run]):
        return False
    if not is_in(first_box(plant), run[0]):
        return False
    for values, later in zip(run, run[1:]):
        if not leads_to(plant, values, later):
            return False
    return True


def shortest_to(machine, wanted):
    """Returns a shortest run that ends in a wanted state, or None if there is none."""
    states, starts, steps = machine
    numbers = [number for number, truth in enumerate(wanted) if truth]
    if len(numbers) == 0:
        return None
    ahead = ahead_of(steps)
    number = numbers[0]
    backward = [states[number]]
    while number not in starts:
        number = ahead[number][0]
        backward.append(states[number])
    return list(reversed(backward))


def dead_ends(machine):
    """Returns the list of the values of the states that are dead ends, in the order of their numbers."""
    states, _, steps = machine
    return [values for values, row in zip(states, steps) if len(row) == 0]
