"""Steps between numbered nodes: what wardens/graphs.py does for the other files."""

import unittest

from samples import chance_from
from wardens.graphs import distances_to, longest_from, on_rounds, shortest_way, within

T, F = True, False


def random_steps(chance, size, most):
    return [sorted(chance.sample(range(size), chance.randint(0, min(most, size)))) for _ in range(size)]


def reached(steps, begin):
    """All nodes to which some way leads from the next nodes of a node."""
    found = list(steps[begin])
    for node in found:
        found.extend(later for later in steps[node] if later not in found)
    return found


def ways_from(steps, node, members):
    """The lengths of all ways through members that begin with a node, up to one more than there are nodes."""
    rows, lengths = [node] if members[node] else [], []
    while rows and len(lengths) <= len(steps):
        lengths.append(len(lengths) + 1)
        rows = sorted({later for row in rows for later in steps[row] if members[later]})
    return lengths


class TestShortestWay(unittest.TestCase):
    def test_start_that_is_a_goal(self):
        self.assertEqual(shortest_way([2, 1], [[], [], [0]], [F, T, T]), [2])

    def test_first_of_the_nearest(self):
        steps = [[2, 1], [3], [3], []]
        self.assertEqual(shortest_way([0], steps, [F, F, F, T]), [0, 2, 3])
        self.assertEqual(shortest_way([0, 1, 2], steps, [F, F, F, T]), [1, 3])
        self.assertEqual(shortest_way([0, 2, 1], steps, [F, F, F, T]), [2, 3])

    def test_none(self):
        self.assertIsNone(shortest_way([0], [[1], [0], []], [F, F, T]))
        self.assertIsNone(shortest_way([], [[0]], [T]))


class TestLongestFrom(unittest.TestCase):
    def test_ways(self):
        self.assertEqual(longest_from([[1, 2], [2], []], [T, T, T]), [3, 2, 1])
        self.assertEqual(longest_from([[1, 2], [2], []], [T, F, T]), [2, 0, 1])
        self.assertEqual(longest_from([[1], [2], [1]], [T, T, T]), [None, None, None])
        self.assertEqual(longest_from([[1], [2], [1]], [T, T, F]), [2, 1, 0])
        self.assertEqual(longest_from([[0]], [F]), [0])

    def test_within(self):
        self.assertEqual(within([[0, 1, 2], [2], [1]], [T, F, T]), [[0, 2], [], []])

    def test_random(self):
        chance = chance_from(80)
        for _ in range(300):
            size = chance.randint(1, 7)
            steps = random_steps(chance, size, 2)
            members = [chance.random() < 0.7 for _ in steps]
            for node, length in enumerate(longest_from(steps, members)):
                lengths = ways_from(steps, node, members)
                self.assertEqual(length, None if len(lengths) > size else len(lengths))


class TestOnRounds(unittest.TestCase):
    def test_rounds(self):
        self.assertEqual(on_rounds([]), [])
        self.assertEqual(on_rounds([[], [1]]), [F, T])
        # Node 2 leads from one round to another one, and is on none.
        self.assertEqual(on_rounds([[1], [0, 2], [3], [4], [3]]), [T, T, F, T, T])

    def test_random(self):
        chance = chance_from(81)
        for _ in range(500):
            steps = random_steps(chance, chance.randint(1, 8), 2)
            self.assertEqual(on_rounds(steps), [node in reached(steps, node) for node in range(len(steps))])

    def test_long_ring(self):
        size = 3000
        ring = [[(node + 1) % size] for node in range(size)]
        self.assertTrue(all(on_rounds(ring)))
        ring[-1] = []
        self.assertFalse(any(on_rounds(ring)))
        self.assertEqual(distances_to(ring, [False] * (size - 1) + [True])[0], size - 1)


if __name__ == "__main__":
    unittest.main()
