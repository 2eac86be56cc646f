"""Sets of numbers from 0 on, each as one integer: a number is in the set if the bit at this place is 1."""


def mask_of(numbers):
    """Returns the mask of a list or tuple of numbers."""
    mask = 0
    for number in numbers:
        mask |= 1 << number
    return mask


def numbers_in(mask):
    """Returns the list of the numbers in a mask in ascending order."""
    numbers = []
    while mask > 0:
        lowest = mask & -mask
        numbers.append(lowest.bit_length() - 1)
        mask -= lowest
    return numbers


def union_of(masks, mask):
    """Returns the mask of all that is in one of those masks in a list whose indexes are in a mask."""
    union = 0
    for number in numbers_in(mask):
        union |= masks[number]
    return union
