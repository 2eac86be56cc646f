"""Boxes: lists of pairs (least, greatest), one for each item of the tuples in the box.

The tuples in a box are ordered as tuples are compared. A box can have too many of them for a list.
"""


def size_of(box):
    """Returns the number of tuples in a box, none of whose pairs is empty."""
    size = 1
    for least, greatest in box:
        size *= greatest - least + 1
    return size


def tuple_at(box, index):
    """Returns the tuple at an index in the order of those in a box."""
    backward = []
    for least, greatest in reversed(box):
        index, place = divmod(index, greatest - least + 1)
        backward.append(least + place)
    return tuple(reversed(backward))


def tuples_in(box):
    """Returns the list of the tuples in a box in order."""
    rows = [()]
    for least, greatest in box:
        rows = [row + (number,) for row in rows for number in range(least, greatest + 1)]
    return rows


def is_in(box, row):
    """Returns whether a tuple or list of the box's length is in a box."""
    return all([least <= number <= greatest for (least, greatest), number in zip(box, row)])
