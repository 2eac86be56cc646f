"""Pairs of tracked states that two runs with the same readings can be in."""

from wardens.errors import TooMany
from wardens.masks import mask_of, numbers_in
from wardens.readings import shown_by


def near(plant, shown, other):
    """Returns whether a reading fits both, from what the sensors' terms are for two values."""
    return all([lossy or overlap(error, left, right)
                for (_, _, error, lossy), left, right in zip(plant[2], shown, other)])


def overlap(error, left, right):
    """Returns whether a sensor with an error can show the same integer for both values of its term."""
    return abs(left - right) <= 2 * error


def partners_of(plant, marks):
    """Returns for each tracked state the mask of those whose values share a reading with its own."""
    shown = [shown_by(plant, values) for values, _ in marks]
    masks = {}
    for middles in shown:
        if middles not in masks:
            masks[middles] = mask_of([number for number, other in enumerate(shown) if near(plant, middles, other)])
    return [masks[middles] for middles in shown]


class Pairing:
    """The pairs of tracked states that share a reading, and the two steps between them."""

    def __init__(self, plant, tracked):
        marks, starts, steps, _ = tracked
        self.partners = partners_of(plant, marks)
        self.starts = sorted(starts)
        self.steps = [sorted(row) for row in steps]
        self.step_masks = [mask_of(row) for row in steps]

    def pairs_among(self, firsts, mask):
        """Returns the list of the pairs of one of the first numbers and one in a mask that share a reading."""
        return [(first, second) for first in firsts for second in numbers_in(mask & self.partners[first])]

    def first_pairs(self):
        """Returns the list of the pairs at the first tick, in ascending order."""
        return self.pairs_among(self.starts, mask_of(self.starts))

    def next_pairs(self, pair):
        """Returns the list of the pairs to which two steps lead, in ascending order."""
        first, second = pair
        return self.pairs_among(self.steps[first], self.step_masks[second])

    def reached_pairs(self, most):
        """Returns the list of the twins in ascending order. Raises TooMany if there are more than `most`."""
        reached = self.first_pairs()
        known = {pair: True for pair in reached}
        done = 0
        while done < len(reached):
            if len(reached) > most:
                raise TooMany("twins")
            for pair in self.next_pairs(reached[done]):
                if pair not in known:
                    known[pair] = True
                    reached.append(pair)
            done += 1
        return sorted(reached)
