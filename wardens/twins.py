"""Twins: tracked states in which two runs with the same readings can be at the same tick."""

from wardens.pairing import Pairing, near, overlap
from wardens.readings import shown_by


def share(plant, values, other):
    """Returns True if two values share a reading, otherwise False."""
    return near(plant, shown_by(plant, values), shown_by(plant, other))


def shared_reading(plant, values, other):
    """Returns the reading of two values that share one."""
    items = []
    for (_, _, error, _), left, right in zip(plant[2], shown_by(plant, values), shown_by(plant, other)):
        items.append(max(left, right) - error if overlap(error, left, right) else None)
    return tuple(items)


def twins(plant, tracked, most):
    """Returns the list of the twins in ascending order. Raises TooMany if there are more than `most`."""
    return Pairing(plant, tracked).reached_pairs(most)
