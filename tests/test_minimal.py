"""Smallest monitors: points [22], [42] and [43], and the interface of wardens/minimal.py."""

import unittest

from definitions import reached_nodes
from samples import chance_from, random_monitor
from wardens.minimal import reduce

TWO = ((0,), (None,))
S, N, U, I = "sure", "never", "unknown", "impossible"


def apart(monitor, other, node, other_node):
    """Whether some row leads two nodes to different verdicts."""
    pairs = [(node, other_node)]
    for left, right in pairs:
        if monitor[2][left] != other[2][right]:
            return True
        pairs.extend([pair for pair in zip(monitor[3][left], other[3][right]) if pair not in pairs])
    return False


class TestReduce(unittest.TestCase):
    def test_nodes_that_are_not_reached(self):
        monitor = (TWO, 0, (I, S, N, U), ((1, 0), (1, 0), (0, 3), (2, 2)))
        self.assertEqual(reduce(monitor), (TWO, 0, (I, S), ((1, 0), (1, 0))))

    def test_nodes_that_say_the_same(self):
        monitor = (TWO, 0, (I, S, S, N), ((1, 2), (3, 1), (3, 2), (3, 3)))
        self.assertEqual(reduce(monitor), (TWO, 0, (I, S, N), ((1, 1), (2, 1), (2, 2))))

    def test_nodes_in_a_ring(self):
        monitor = (TWO, 0, (U, U, U, U), ((1, 3), (2, 0), (3, 1), (0, 2)))
        self.assertEqual(reduce(monitor), (TWO, 0, (U,), ((0, 0),)))
        monitor = (TWO, 0, (U, S, U, S), ((1, 3), (2, 0), (3, 1), (0, 2)))
        self.assertEqual(reduce(monitor), (TWO, 0, (U, S), ((1, 1), (0, 0))))

    def test_same_verdict_but_not_the_same_later(self):
        monitor = (TWO, 0, (U, U, U, U, S), ((1, 0), (2, 0), (3, 0), (4, 0), (4, 4)))
        self.assertEqual(reduce(monitor), monitor)

    def test_same_for_one_reading_only(self):
        monitor = (TWO, 0, (I, U, U, S), ((1, 2), (3, 3), (3, 1), (3, 3)))
        self.assertEqual(reduce(monitor), monitor)

    def test_numbers_are_breadth_first(self):
        monitor = (TWO, 0, (I, S, N, U), ((3, 1), (2, 2), (2, 2), (0, 1)))
        self.assertEqual(reduce(monitor), (TWO, 0, (I, U, S, N), ((1, 2), (0, 2), (3, 3), (3, 3))))

    def test_numbers_go_by_the_order_of_the_readings(self):
        three = ((2,), (0,), (1,))
        monitor = (three, 0, (I, S, N, U), ((3, 2, 1), (1, 1, 1), (2, 2, 2), (3, 3, 3)))
        self.assertEqual(reduce(monitor), (three, 0, (I, U, N, S), ((1, 2, 3), (1, 1, 1), (2, 2, 2), (3, 3, 3))))

    def test_first_node_that_is_not_0(self):
        monitor = (TWO, 3, (S, S, U, I, N), ((0, 0), (1, 0), (1, 3), (2, 0), (4, 4)))
        self.assertEqual(reduce(monitor), (TWO, 0, (I, U, S), ((1, 2), (2, 0), (2, 2))))

    def test_nodes_behind_a_node_of_a_known_class(self):
        monitor = (TWO, 4, (S, U, N, U, I), ((0, 0), (0, 2), (2, 2), (0, 2), (3, 1)))
        self.assertEqual(reduce(monitor), (TWO, 0, (I, U, S, N), ((1, 1), (2, 3), (2, 2), (3, 3))))

    def test_no_readings(self):
        self.assertEqual(reduce(((), 2, (S, N, U), ((), (), ()))), ((), 0, (U,), ((),)))

    def test_one_node(self):
        for monitor in [(TWO, 0, (N,), ((0, 0),)), ((), 0, (I,), ((),))]:
            self.assertEqual(reduce(monitor), monitor)

    def test_monitor_without_sensors(self):
        one = ((),)
        monitor = (one, 0, (I, N, S, N), ((1,), (2,), (3,), (2,)))
        self.assertEqual(reduce(monitor), (one, 0, (I, N, S), ((1,), (2,), (1,))))

    def test_long_row_of_nodes(self):
        edges = tuple((min(node + 1, 199), node) for node in range(200))
        monitor = (TWO, 0, (U,) * 199 + (S,), edges)
        self.assertEqual(reduce(monitor), monitor)
        self.assertEqual(reduce((TWO, 0, (U,) * 200, edges)), (TWO, 0, (U,), ((0, 0),)))

    def test_monitor_stays_as_it_is(self):
        monitor = (TWO, 1, (S, I, S), ((0, 2), (0, 2), (2, 0)))
        before = (TWO, 1, (S, I, S), ((0, 2), (0, 2), (2, 0)))
        reduce(monitor)
        self.assertEqual(monitor, before)

    def test_kinds(self):
        monitor = reduce((TWO, 1, (S, I, S), ((0, 2), (0, 2), (2, 0))))
        for made in (monitor, monitor[0], monitor[2], monitor[3], *monitor[3]):
            self.assertIs(type(made), tuple)

    def test_against_the_definition(self):
        chance = chance_from(9)
        for _ in range(300):
            monitor = random_monitor(chance, 9, chance.randint(0, 3), verdicts=(S, N))
            small = reduce(monitor)
            nodes = range(len(small[2]))
            self.assertEqual((small[0], small[1], len(small[3])), (monitor[0], 0, len(small[2])))
            self.assertFalse(apart(monitor, small, monitor[1], 0))
            self.assertEqual(reached_nodes(small, 0), list(nodes))
            self.assertTrue(all(apart(small, small, i, j) for j in nodes for i in range(j)))
            self.assertEqual(reduce(small), small)


if __name__ == "__main__":
    unittest.main()
