"""The steps of a plant: which values come next."""

from wardens.boxes import is_in, size_of, tuple_at
from wardens.terms import is_true, value_of


def count_next(plant, values, most):
    """Returns the number of next values if it is at most `most`, otherwise `most + 1`."""
    part_boxes = boxes_of_parts(plant, values)
    # This is asked before anything is counted: the other parts may have more values than can be listed.
    if is_stuck(part_boxes):
        return 0
    count = 1
    for boxes in part_boxes:
        if count <= most:
            count *= count_values(boxes, most)
    return min(count, most + 1)


def next_values(plant, values, most):
    """Returns the list of the next values in order; there are at most `most` of them."""
    part_boxes = boxes_of_parts(plant, values)
    if is_stuck(part_boxes):
        return []
    rows = [()]
    for boxes in part_boxes:
        ends = list_values(boxes, most)
        rows = [row + end for row in rows for end in ends]
    return rows


def leads_to(plant, values, later):
    """Returns True if a step leads from values to later ones, a tuple or a list, otherwise False."""
    return all([part_leads_to(plant, part, values, later) for part in plant[1]])


def part_leads_to(plant, part, values, later):
    """Returns whether a possible move of a part leads to its part of the later values."""
    _, first, count, _ = part
    own = later[first:first + count]
    return any([is_in(box, own) for box in boxes_after(plant, part, values)])


def boxes_of_parts(plant, values):
    """Returns for each part the boxes of its possible moves."""
    return [boxes_after(plant, part, values) for part in plant[1]]


def is_stuck(part_boxes):
    """Returns whether some part has no possible move."""
    return any([len(boxes) == 0 for boxes in part_boxes])


def boxes_after(plant, part, values):
    """Returns the list of the boxes of a part's possible moves, in the order of the moves."""
    boxes = [box_after(plant, part, move, values) for move in part[3]]
    return [box for box in boxes if box is not None]


def box_after(plant, part, move, values):
    """Returns the box of what a move can make of its part's variables, or None if it is not possible."""
    _, first, count, _ = part
    _, guard, settings = move
    if not is_true(guard, values):
        return None
    box = [(number, number) for number in values[first:first + count]]
    for variable, low, high in settings:
        _, least, greatest, _, _ = plant[0][variable]
        lowest = max(least, value_of(low, values))
        highest = min(greatest, value_of(high, values))
        if lowest > highest:
            return None
        box[variable - first] = (lowest, highest)
    return box


def count_values(boxes, most):
    """Returns the number of tuples in some of the boxes if it is at most `most`, otherwise `most + 1`."""
    if max([size_of(box) for box in boxes]) > most:
        return most + 1
    return len(list_values(boxes, most + 1))


def list_values(boxes, most):
    """Returns the list of the tuples in some of the boxes, each at its first place, but only `most` of them."""
    found = {}
    for box in boxes:
        size = size_of(box)
        index = 0
        # The tuples of one box are all different, so this ends soon even if the box is very large.
        while index < size and len(found) < most:
            found[tuple_at(box, index)] = True
            index += 1
    return list(found)
