"""Monitors: points [22] and [42] to [45], and the interface of wardens/monitors.py."""

import itertools
import unittest

from definitions import reached_nodes, rows_over
from samples import chance_from, fact, num, random_monitor, random_requirement, random_walker, var, walker
from wardens.errors import OtherReadings, TooMany
from wardens.judging import judge
from wardens.memory import weight
from wardens.minimal import reduce
from wardens.monitors import build, same, says, settled
from wardens.names import compile_source
from wardens.readings import possible_readings
from wardens.tracking import track
from wardens.unfolding import unfold

S, N, U, I = "sure", "never", "unknown", "impossible"
EXACT = ("exact", var(0), 0, False)
ROUGH = ("rough", var(0), 1, True)
BLIND = ("blind", num(0), 0, False)
TWO = ((0,), (None,))


def tracked_of(plant, requirement):
    return track(unfold(plant, 99), requirement, 400)


def monitor_of(plant, requirement, readings, most=99):
    return build(plant, tracked_of(plant, requirement), readings, most)


def count_sets(plant, tracked, readings):
    """The number of the sets of all rows of at least one reading, and the beginning."""
    marks, starts, steps, _ = tracked
    sets, left = [], [frozenset(starts)]
    while left:
        ahead = left.pop()
        for reading in readings:
            found = frozenset(n for n in ahead if judge(plant, ((marks[n],), (0,), ((),), (True,)), [reading]) == S)
            if found not in sets:
                sets.append(found)
                left.append(frozenset(later for n in found for later in steps[n]))
    return len(sets) + 1


class TestSays(unittest.TestCase):
    def setUp(self):
        self.monitor = (TWO, 1, (N, I, S, U), ((0, 0), (2, 3), (0, 2), (3, 1)))

    def test_empty_row(self):
        for row in ([], ()):
            self.assertEqual(says(self.monitor, row), I)
        self.assertEqual(says((TWO, 3, *self.monitor[2:]), []), U)

    def test_rows(self):
        for row, verdict in [
            ([(0,)], S), ([(None,)], U), ([(0,), (0,)], N), ([(0,), (None,)], S), ([(None,), (0,)], U),
            ([(None,), (None,)], I), ([(None,), (None,), (None,), (0,)], U), ([(0,), (None,), (None,), (0,)], N),
        ]:
            self.assertEqual(says(self.monitor, row), verdict, row)

    def test_rows_as_lists_and_as_tuples(self):
        for row in [((0,), (None,)), [[0], [None]], ([0], (None,)), [(0,), [None]]]:
            self.assertEqual(says(self.monitor, row), S)

    def test_reading_that_is_not_in_the_list(self):
        for reading in [(1,), (), (0, 0), [1], [], (None, None)]:
            for row in [[reading], [reading, (0,)], [(0,), reading], [(0,), reading, (None,)]]:
                self.assertEqual(says(self.monitor, row), I, row)

    def test_no_readings(self):
        monitor = ((), 0, (U,), ((),))
        self.assertEqual(says(monitor, []), U)
        self.assertEqual(says(monitor, [()]), I)

    def test_readings_without_items(self):
        monitor = (((),), 0, (I, S), ((1,), (1,)))
        self.assertEqual([says(monitor, [()] * ticks) for ticks in range(3)], [I, S, S])

    def test_row_stays_as_it_is(self):
        row = [[0], [None]]
        says(self.monitor, row)
        self.assertEqual(row, [[0], [None]])


class TestBuild(unittest.TestCase):
    def test_smallest_monitor_with_its_numbers(self):
        plant = walker((0, 1), (1, 2), (3,), (), sensors=[EXACT])
        self.assertEqual(monitor_of(plant, ("once", fact(2)), [(0,), (1,), (2,), (3,)]), (
            ((0,), (1,), (2,), (3,)), 0, (I, N, I, N, S, S),
            ((1, 2, 2, 2), (1, 3, 2, 2), (2, 2, 2, 2), (2, 3, 4, 2), (2, 2, 2, 5), (2, 2, 2, 2)),
        ))

    def test_order_of_the_readings(self):
        plant = walker((0, 1), (1, 2), (3,), (), sensors=[EXACT])
        self.assertEqual(monitor_of(plant, ("once", fact(2)), [(2,), (1,), (0,)]), (
            ((2,), (1,), (0,)), 0, (I, I, N, N, S), ((1, 1, 2), (1, 1, 1), (1, 3, 2), (4, 3, 1), (1, 1, 1)),
        ))

    def test_sets_of_several(self):
        plant = walker((0, 1), (0, 1, 2), (2,), sensors=[("rough", var(0), 1, False)])
        self.assertEqual(monitor_of(plant, ("once", fact(2)), [(0,), (1,), (2,)]), (
            ((0,), (1,), (2,)), 0, (I, N, I, N, U), ((1, 1, 2), (3, 3, 3), (2, 2, 2), (3, 4, 4), (3, 4, 4)),
        ))

    def test_beginning_is_a_node_of_its_own(self):
        # All rows of readings have the same set, which is not that of the empty row.
        plant = walker((0,), sensors=[BLIND])
        self.assertEqual(monitor_of(plant, fact(0), [(0,)], 2), (((0,),), 0, (I, S), ((1,), (1,))))
        self.assertEqual(monitor_of(plant, fact(1), [(0,)], 2), (((0,),), 0, (I, N), ((1,), (1,))))

    def test_empty_set(self):
        plant = walker((1,), (), sensors=[EXACT])
        self.assertEqual(monitor_of(plant, fact(0), [(0,), (1,)]), (
            ((0,), (1,)), 0, (I, S, I, N), ((1, 2), (2, 3), (2, 2), (2, 2)),
        ))

    def test_empty_set_says_the_same_as_a_beginning_without_ways_out(self):
        plant = walker((0,), sensors=[EXACT])
        tracked = tracked_of(plant, fact(0))
        self.assertEqual(build(plant, tracked, [(1,), (2,)], 2), (((1,), (2,)), 0, (I,), ((0, 0),)))
        with self.assertRaises(TooMany):
            build(plant, tracked, [(1,), (2,)], 1)

    def test_equal_sets_from_different_rows(self):
        plant = walker((1, 2), (3,), (3,), (3,), sensors=[EXACT])
        tracked = tracked_of(plant, fact(3))
        readings = [(0,), (1,), (2,), (3,)]
        # The beginning, the empty set, and those of one state each.
        self.assertEqual(count_sets(plant, tracked, readings), 6)
        monitor = build(plant, tracked, readings, 6)
        self.assertEqual(monitor[2], (I, N, I, N, S))
        with self.assertRaises(TooMany):
            build(plant, tracked, readings, 5)

    def test_at_the_limit_and_one_beyond_it(self):
        chance = chance_from(30)
        for _ in range(60):
            plant = random_walker(chance, 4, sensors=[("s", var(0), chance.randint(0, 1), False)])
            tracked = tracked_of(plant, ("once", fact(1)))
            readings = possible_readings(plant, unfold(plant, 9), 99)
            count = count_sets(plant, tracked, readings)
            build(plant, tracked, readings, count)
            for most in (0, 1, count - 1):
                with self.assertRaises(TooMany) as caught:
                    build(plant, tracked, readings, most)
                self.assertEqual(caught.exception.what, "sets")

    def test_no_readings_at_all(self):
        plant = walker((0,), sensors=[EXACT])
        tracked = tracked_of(plant, fact(0))
        self.assertEqual(build(plant, tracked, [], 1), ((), 0, (I,), ((),)))
        with self.assertRaises(TooMany) as caught:
            build(plant, tracked, [], 0)
        self.assertEqual(caught.exception.what, "sets")

    def test_no_sensors(self):
        plant = walker((1,), (2,), ())
        self.assertEqual(monitor_of(plant, fact(1), [()]), (((),), 0, (I, N, S, N, I), ((1,), (2,), (3,), (4,), (4,))))

    def test_readings_of_another_length(self):
        plant = walker((0,), sensors=[EXACT])
        self.assertEqual(monitor_of(plant, fact(0), [(), (0,), (0, 0), (None,)]), (
            ((), (0,), (0, 0), (None,)), 0, (I, I, S), ((1, 2, 1, 1), (1, 1, 1, 1), (1, 2, 1, 1)),
        ))

    def test_readings_as_lists(self):
        plant = walker((0,), sensors=[EXACT])
        for readings in ([[0], [1]], ((0,), (1,)), ([0], (1,))):
            self.assertEqual(monitor_of(plant, fact(0), readings)[0], ((0,), (1,)))

    def test_arguments_stay_and_kinds(self):
        plant = walker((0,), sensors=[EXACT])
        readings = [[0], [1]]
        monitor = monitor_of(plant, fact(0), readings)
        self.assertEqual(readings, [[0], [1]])
        for made in (monitor, monitor[0], monitor[0][0], monitor[2], monitor[3], *monitor[3]):
            self.assertIs(type(made), tuple)

    def test_many_sets(self):
        # A ring of 60 states seen through one lamp: 60 sets of one state, and more of several.
        ring = walker(*[((k + 1) % 60,) for k in range(60)], first=(0, 59),
                      sensors=[("lamp", ("min", var(0), num(1)), 0, False)])
        tracked = tracked_of(ring, fact(3))
        monitor = build(ring, tracked, [(0,), (1,)], 200)
        self.assertEqual(len(monitor[2]), count_sets(ring, tracked, [(0,), (1,)]))

    def test_source(self):
        plant, _, requirements = compile_source(
            "part tank { var level : 0..2 from 0; move fill do level := level + 1; move drain do level := 0; }"
            " sensor gauge = level +- 1; require full = once level = 2;"
        )
        machine = unfold(plant, 9)
        readings = possible_readings(plant, machine, 9)
        self.assertEqual(readings, [(-1,), (0,), (1,), (2,), (3,)])
        monitor = build(plant, track(machine, requirements[0][1], 9), readings, 99)
        self.assertEqual(says(monitor, [(0,), (2,), (3,)]), S)
        self.assertEqual(says(monitor, [(0,), (2,), (1,)]), U)
        self.assertEqual(says(monitor, [(0,), (-1,), (1,)]), N)
        self.assertEqual(says(monitor, [(0,), (3,)]), I)

    def test_says_what_judging_finds(self):
        chance = chance_from(31)
        for _ in range(80):
            sensor = ("s", var(0), chance.randint(0, 1), chance.random() < 0.4)
            plant = random_walker(chance, 4, sensors=[sensor])
            machine = unfold(plant, 4)
            requirement = random_requirement(chance, 2, 4)
            if weight(requirement) > 16:
                continue
            tracked = track(machine, requirement, 100)
            readings = possible_readings(plant, machine, 20)
            chance.shuffle(readings)
            readings = readings[:3] + [(99,)]
            monitor = build(plant, tracked, readings, 999)
            for row in rows_over(readings, 4):
                self.assertEqual(says(monitor, row), judge(plant, tracked, row), (plant, requirement, row))
            self.assertEqual(reduce(monitor), monitor)
            self.assertEqual(monitor[0], tuple(readings))


class TestSame(unittest.TestCase):
    def test_same(self):
        monitor = (TWO, 1, (N, I, S), ((0, 0), (2, 1), (0, 2)))
        self.assertIsNone(same(monitor, monitor))
        self.assertIsNone(same(monitor, reduce(monitor)))
        self.assertIsNone(same(reduce(monitor), monitor))

    def test_first_nodes(self):
        self.assertEqual(same((TWO, 0, (I,), ((0, 0),)), (TWO, 0, (S,), ((0, 0),))), [])
        self.assertEqual(same((TWO, 0, (I, S), ((1, 1), (1, 1))), (TWO, 1, (I, S), ((1, 1), (1, 1)))), [])

    def test_shortest_row(self):
        # (0,), (0,) would come first, but one (None,) is shorter.
        monitor = (TWO, 0, (I, I, S, S), ((1, 2), (2, 2), (2, 2), (3, 3)))
        other = (TWO, 0, (I, I, N, S), ((1, 2), (2, 2), (2, 2), (3, 3)))
        self.assertEqual(same(monitor, other), [(None,)])

    def test_first_of_several_shortest_rows(self):
        monitor = (TWO, 0, (I, I, I, S), ((1, 2), (3, 3), (3, 3), (3, 3)))
        for edges, row in [
            (((1, 2), (1, 3), (1, 1), (3, 3)), [(0,), (0,)]), (((1, 2), (3, 1), (1, 1), (3, 3)), [(0,), (None,)]),
            (((1, 2), (3, 3), (1, 1), (3, 3)), [(None,), (0,)]), (((1, 2), (3, 3), (3, 1), (3, 3)), [(None,), (None,)]),
        ]:
            self.assertEqual(same(monitor, (TWO, 0, (I, I, I, S), edges)), row)

    def test_order_is_that_of_the_list_of_readings(self):
        for readings in [((5,), (1,)), ((None,), (3,)), ((1, 1), (1, 0))]:
            monitor = (readings, 0, (I, S), ((1, 1), (1, 1)))
            other = (readings, 0, (I, N), ((1, 1), (1, 1)))
            self.assertEqual(same(monitor, other), [readings[0]])

    def test_long_row(self):
        size = 150
        edges = tuple((min(node + 1, size - 1), 0) for node in range(size))
        monitor = (TWO, 0, (U,) * size, edges)
        other = (TWO, 0, (U,) * (size - 1) + (S,), edges)
        self.assertEqual(same(monitor, other), [(0,)] * (size - 1))

    def test_different_numbers_of_nodes(self):
        monitor = (TWO, 0, (I, S), ((1, 1), (1, 1)))
        other = (TWO, 0, (I, S, S, S), ((1, 2), (3, 3), (2, 1), (3, 3)))
        self.assertIsNone(same(monitor, other))
        self.assertIsNone(same(other, monitor))
        wrong = (TWO, 0, (I, S, S, N), ((1, 2), (2, 1), (2, 3), (3, 3)))
        self.assertEqual(same(monitor, wrong), [(None,), (None,)])
        self.assertEqual(same(wrong, monitor), [(None,), (None,)])

    def test_nodes_that_are_not_reached(self):
        monitor = (TWO, 1, (N, I, S), ((0, 0), (1, 1), (2, 2)))
        self.assertIsNone(same(monitor, (TWO, 0, (I, N, U), ((0, 0), (2, 2), (1, 1)))))

    def test_other_readings(self):
        monitor = (TWO, 0, (I,), ((0, 0),))
        for other in [
            (((None,), (0,)), 0, (I,), ((0, 0),)), (((0,),), 0, (I,), ((0,),)), ((), 0, (S,), ((),)),
            (((0,), (None,), (1,)), 0, (I,), ((0, 0, 0),)),
        ]:
            for pair in [(monitor, other), (other, monitor)]:
                with self.assertRaises(OtherReadings):
                    same(*pair)

    def test_no_readings(self):
        self.assertIsNone(same(((), 0, (I,), ((),)), ((), 1, (S, I), ((), ()))))
        self.assertEqual(same(((), 0, (I,), ((),)), ((), 0, (S, I), ((), ()))), [])

    def test_against_the_definition(self):
        chance = chance_from(32)
        for _ in range(300):
            count = chance.randint(1, 3)
            monitor, other = random_monitor(chance, 4, count), random_monitor(chance, 3, count)
            row = same(monitor, other)
            rows = [list(one) for length in range(8) for one in itertools.product(monitor[0], repeat=length)][:3000]
            told = [one for one in rows if says(monitor, one) != says(other, one)]
            self.assertEqual(row, told[0] if told else None)
            self.assertIs(type(row), list if told else type(None))

    def test_result_is_new(self):
        monitor, other = (TWO, 0, (I, S), ((1, 1), (1, 1))), (TWO, 0, (I, N), ((1, 1), (1, 1)))
        same(monitor, other).clear()
        self.assertEqual(same(monitor, other), [(0,)])


class TestSettled(unittest.TestCase):
    def test_node_that_reaches_itself_alone(self):
        for verdict in (S, N, U, I):
            self.assertEqual(settled((TWO, 0, (verdict,), ((0, 0),))), [True])

    def test_node_that_reaches_another_verdict(self):
        self.assertEqual(settled((TWO, 0, (S, N), ((1, 0), (1, 1)))), [False, True])
        self.assertEqual(settled((TWO, 0, (U, S), ((0, 0), (1, 0)))), [True, False])
        self.assertEqual(settled((TWO, 0, (N, N, N, U), ((1, 1), (2, 1), (2, 3), (3, 3)))), [False, False, False, True])

    def test_node_that_reaches_impossible(self):
        self.assertEqual(settled((TWO, 0, (S, I), ((0, 1), (1, 1)))), [True, True])
        self.assertEqual(settled((TWO, 0, (U, I, U), ((1, 2), (1, 1), (0, 2)))), [True, True, True])

    def test_impossible_node_that_reaches_another_verdict(self):
        self.assertEqual(settled((TWO, 0, (I, S), ((0, 1), (1, 1)))), [False, True])
        self.assertEqual(settled((TWO, 0, (S, I, N), ((0, 1), (1, 2), (2, 2)))), [False, False, True])
        self.assertEqual(settled((TWO, 0, (S, I), ((0, 1), (0, 1)))), [True, False])

    def test_ring(self):
        self.assertEqual(settled((TWO, 0, (S, S, N), ((1, 1), (2, 2), (0, 0)))), [False] * 3)
        self.assertEqual(settled((TWO, 0, (S, S, I), ((1, 1), (2, 2), (0, 0)))), [True, True, False])

    def test_nodes_that_are_not_reached(self):
        self.assertEqual(settled((TWO, 1, (S, N, U), ((1, 1), (1, 1), (2, 2)))), [False, True, True])

    def test_no_readings(self):
        self.assertEqual(settled(((), 0, (S, I), ((), ()))), [True, True])

    def test_against_the_definition(self):
        chance = chance_from(33)
        for _ in range(300):
            monitor = random_monitor(chance, 6, chance.randint(0, 2))
            expected = [all(monitor[2][other] in (verdict, I) for other in reached_nodes(monitor, node))
                        for node, verdict in enumerate(monitor[2])]
            found = settled(monitor)
            self.assertEqual(found, expected)
            self.assertTrue(all(type(truth) is bool for truth in found))


if __name__ == "__main__":
    unittest.main()
