"""Pairs of tracked states that two runs with the same readings can be in."""

from wardens.errors import TooMany
from wardens.masks import mask_of, numbers_in
from wardens.readings import shown_by


def near(plant, shown, other):
    """Returns whether a reading fits both, from what the sensors' terms are for two values."""
    return all([lossy or overlap(error, left, right)
                for (_, _, error, lossy), left, right in zip(plant[2], shown, other)])


def overlap(error, left, right):
    """Returns whether a sensor with an error can show the same integer for both values of its term."""
    return abs(left - right) <= 2 * error


def partners_of(plant, marks):
    """Returns for each tracked state the mask of those whose values share a reading with its own."""
    shown = [shown_by(plant, values) for values, _ in marks]
    masks = {}
    for middles in shown:
        if middles not in masks:
            masks[middles] = mask_of([number for number, other in enumerate(shown) if near(plant, middles, other)])
    return [masks[middles] for middles in shown]


class Pairing:
    """The pairs of tracked states that share a reading, and the two steps between them."""

    def __init__(self, plant, tracked):
        marks, starts, steps, _ = tracked
        self.partners = partners_of(plant, marks)
        self.starts = sorted(starts)
        self.steps = [sorted(row) for row in steps]
        self.step_masks = [mask_of(row) for row in steps]

    def reached_pairs(self, most):
        """Returns the list of the twins in ascending order. Raises TooMany if there are more than `most`."""
        reached = []
        # For each first number, the mask of the second ones with which it has been reached.
        known = [0] * len(self.steps)
        firsts = self.starts
        seconds = mask_of(self.starts)
        done = 0
        while True:
            for first in firsts:
                fresh = seconds & self.partners[first] & ~known[first]
                known[first] |= fresh
                reached.extend([(first, second) for second in numbers_in(fresh)])
            if len(reached) > most:
                raise TooMany("twins")
            if done == len(reached):
                return sorted(reached)
            left, right = reached[done]
            firsts = self.steps[left]
            seconds = self.step_masks[right]
            done += 1

    def sharing_pairs(self, most):
        """Returns the list of all pairs that share a reading, in ascending order.

        Raises TooMany if there are more than `most`.
        """
        found = []
        for first, mask in enumerate(self.partners):
            found.extend([(first, second) for second in numbers_in(mask)])
            if len(found) > most:
                raise TooMany("twins")
        return found

    def graph_of(self, pairs):
        """Returns pairs in ascending order, those of the first tick, and the two steps: a graph of them.

        The pairs have all those among them to which two steps lead. The graph is a tuple as a machine is,
        with the numbers of pairs in ascending order.
        """
        numbers = {pair: number for number, pair in enumerate(pairs)}
        starts = []
        for first in self.starts:
            starts.extend(self.numbers_with(first, mask_of(self.starts), numbers))
        # Many pairs go on to the same ones, which takes longer to find out than to look up.
        laters = {}
        steps = []
        for first, second in pairs:
            row = []
            for later in self.steps[first]:
                if (later, second) not in laters:
                    laters[(later, second)] = self.numbers_with(later, self.step_masks[second], numbers)
                row.extend(laters[(later, second)])
            steps.append(row)
        return (pairs, starts, steps)

    def numbers_with(self, first, mask, numbers):
        """Returns the list of the numbers of the pairs of a first number and one in a mask that share a reading."""
        return [numbers[(first, second)] for second in numbers_in(mask & self.partners[first])]


def twin_graph(plant, tracked, most):
    """Returns the graph of the twins. Raises TooMany if there are more than `most`."""
    pairing = Pairing(plant, tracked)
    return pairing.graph_of(pairing.reached_pairs(most))


def sharing_graph(plant, tracked, most):
    """Returns the graph of all pairs that share a reading. Raises TooMany if there are more than `most`."""
    pairing = Pairing(plant, tracked)
    return pairing.graph_of(pairing.sharing_pairs(most))


def hiding(tracked, pairs):
    """Returns for each pair whether it hides the requirement: it holds in its first state alone."""
    met = tracked[3]
    return [met[first] and not met[second] for first, second in pairs]
