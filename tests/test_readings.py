"""Readings: points [31] to [34], and the interface of wardens/readings.py."""

import itertools
import unittest

from samples import FALSE, add, machine_of, move, num, part, rows, var, walker
from wardens.errors import NotARun, TooMany, WrongChoices
from wardens.readings import can_show, count_readings, possible_readings, readings_at, readings_of, simulate
from wardens.unfolding import is_run, unfold

EXACT = ("exact", var(0), 0, False)
ROUGH = ("rough", ("mul", var(0), num(10)), 2, False)
LOSSY = ("lossy", var(0), 0, True)
BOTH = ("both", ("sub", num(1), var(0)), 1, True)
WIDE = 10 ** 9


def seen(*sensors):
    """A plant with one variable that rests, and these sensors."""
    return (rows((-9, 9)), (part(0, 1, move()),), sensors)


class TestPossibleForValues(unittest.TestCase):
    def check(self, sensors, values, expected):
        plant = seen(*sensors)
        self.assertEqual(readings_at(plant, values), expected)
        self.assertEqual(count_readings(plant, values, 1000), len(expected))
        for reading in itertools.product([None] + list(range(-35, 36)), repeat=min(len(sensors), 2)):
            self.assertIs(can_show(plant, values, reading), reading in expected, reading)
            self.assertIs(can_show(plant, values, list(reading)), reading in expected, reading)

    def test_exact_sensor(self):
        self.check([EXACT], (3,), [(3,)])
        self.check([EXACT], (-3,), [(-3,)])

    def test_error(self):
        self.check([ROUGH], (3,), [(28,), (29,), (30,), (31,), (32,)])
        self.check([ROUGH], (-1,), [(-12,), (-11,), (-10,), (-9,), (-8,)])

    def test_lossy_sensor_shows_nothing_last(self):
        self.check([LOSSY], (3,), [(3,), (None,)])
        self.check([BOTH], (1,), [(-1,), (0,), (1,), (None,)])

    def test_several_sensors_are_ordered_by_the_first(self):
        self.check([EXACT, BOTH], (2,), [(2, -2), (2, -1), (2, 0), (2, None)])
        self.check([BOTH, LOSSY], (0,), [
            (0, 0), (0, None), (1, 0), (1, None), (2, 0), (2, None), (None, 0), (None, None),
        ])
        self.check([LOSSY, BOTH], (0,), [
            (0, 0), (0, 1), (0, 2), (0, None), (None, 0), (None, 1), (None, 2), (None, None),
        ])

    def test_three_sensors(self):
        plant = seen(LOSSY, EXACT, LOSSY)
        self.assertEqual(readings_at(plant, (4,)), [(4, 4, 4), (4, 4, None), (None, 4, 4), (None, 4, None)])
        self.assertIs(can_show(plant, (4,), (None, 4, 4)), True)
        self.assertIs(can_show(plant, (4,), (4, None, 4)), False)

    def test_no_sensor(self):
        self.check([], (3,), [()])
        self.assertIs(can_show(seen(), (3,), ()), True)

    def test_another_number_of_items(self):
        for sensors, readings in [
            ([], [(3,), (None,)]), ([LOSSY], [(), (3, 3), (None, None), (3, None)]),
            ([LOSSY, LOSSY], [(), (3,), (None,), (3, 3, 3)]),
        ]:
            for reading in readings:
                self.assertIs(can_show(seen(*sensors), (3,), reading), False)
                self.assertIs(can_show(seen(*sensors), (3,), list(reading)), False)

    def test_sensor_about_several_variables(self):
        plant = (rows((0, 9), (0, 9)), (), (("sum", ("add", var(0), var(1)), 0, False),))
        self.assertEqual(readings_at(plant, (3, 4)), [(7,)])
        self.assertIs(can_show(plant, (3, 4), (7,)), True)


class TestCountReadings(unittest.TestCase):
    def test_at_the_limit_one_below_and_one_above(self):
        plant = seen(ROUGH)
        self.assertEqual([count_readings(plant, (0,), most) for most in (0, 3, 4, 5, 6)], [1, 4, 5, 5, 5])
        plant = seen(ROUGH, BOTH)
        self.assertEqual([count_readings(plant, (0,), most) for most in (18, 19, 20, 21)], [19, 20, 20, 20])

    def test_wide_error(self):
        plant = seen(*[("wide", var(0), 1000, True)] * 8)
        self.assertEqual(count_readings(plant, (0,), 200), 201)
        self.assertEqual(count_readings(plant, (0,), 2002 ** 8 - 1), 2002 ** 8)
        self.assertEqual(count_readings(plant, (0,), 2002 ** 8), 2002 ** 8)
        self.assertEqual(count_readings(plant, (0,), 2002 ** 8 + 1), 2002 ** 8)

    def test_no_sensor(self):
        self.assertEqual(count_readings(seen(), (0,), 5), 1)
        self.assertEqual(count_readings(seen(), (0,), 0), 1)

    def test_result_is_new(self):
        readings_at(seen(LOSSY), (3,)).clear()
        self.assertEqual(readings_at(seen(LOSSY), (3,)), [(3,), (None,)])


class TestPossibleReadings(unittest.TestCase):
    def setUp(self):
        sensor = ("gauge", var(0), 1, True)
        self.plant = walker((4,), (), (), (), (1,), sensors=[sensor])
        self.machine = unfold(self.plant, 9)

    def test_without_repetitions_in_the_order_of_the_states(self):
        self.assertEqual(self.machine[0], ((0,), (4,), (1,)))
        self.assertEqual(possible_readings(self.plant, self.machine, 99), [
            (-1,), (0,), (1,), (None,), (3,), (4,), (5,), (2,),
        ])

    def test_at_the_limit_and_one_beyond_it(self):
        self.assertEqual(len(possible_readings(self.plant, self.machine, 8)), 8)
        for most in (0, 1, 3, 4, 7):
            with self.assertRaises(TooMany) as caught:
                possible_readings(self.plant, self.machine, most)
            self.assertEqual(caught.exception.what, "readings")

    def test_wide_errors_are_not_listed(self):
        plant = walker((0,), sensors=[("wide", var(0), 1000, False)] * 8)
        self.assertRaises(TooMany, possible_readings, plant, machine_of(((0,),)), 200)

    def test_no_sensor(self):
        self.assertEqual(possible_readings(walker((0, 1), ()), machine_of(((0, 1), ())), 1), [()])

    def test_result_is_new(self):
        possible_readings(self.plant, self.machine, 99).clear()
        self.assertEqual(len(possible_readings(self.plant, self.machine, 99)), 8)


class TestSimulate(unittest.TestCase):
    def setUp(self):
        self.plant = walker((3,), (4, 0, 2), (1, 2), (), (4, 1), first=(1, 2))

    def test_choices_pick_in_order(self):
        self.assertEqual(simulate(self.plant, [0], 9), [(1,)])
        self.assertEqual(simulate(self.plant, [1], 9), [(2,)])
        self.assertEqual(simulate(self.plant, [0, 0, 1, 2, 0], 9), [(1,), (4,), (1,), (2,), (1,)])
        self.assertEqual(simulate(self.plant, (1, 1, 0), 9), [(2,), (2,), (1,)])

    def test_choice_greater_than_the_number_of_values(self):
        self.assertEqual(simulate(self.plant, [2, 3, 3, 5], 9), [(1,), (4,), (1,), (2,)])
        self.assertEqual(simulate(self.plant, [10 ** 30 + 1, 4], 9), [(2,), (1,)])

    def test_without_choices(self):
        self.assertEqual(simulate(self.plant, [], 9), [])
        self.assertEqual(simulate(self.plant, [], 0), [])

    def test_dead_end_on_the_way(self):
        self.assertEqual(simulate(self.plant, [0, 1, 7, 7, 7], 9), [(1,), (0,), (3,)])
        self.assertEqual(simulate(self.plant, [0, 1, 7], 9), [(1,), (0,), (3,)])
        self.assertEqual(simulate(self.plant, [0, 1, 7, 8], 3), [(1,), (0,), (3,)])

    def test_too_many_first_values(self):
        self.assertEqual(simulate(self.plant, [1, 0], 2), [(2,), (1,)])
        with self.assertRaises(TooMany) as caught:
            simulate(self.plant, [1, 0], 1)
        self.assertEqual(caught.exception.what, "states")

    def test_too_many_next_values(self):
        self.assertEqual(simulate(self.plant, [0, 2], 3), [(1,), (2,)])
        with self.assertRaises(TooMany) as caught:
            simulate(self.plant, [0, 2], 2)
        self.assertEqual(caught.exception.what, "states")
        self.assertEqual(simulate(self.plant, [0], 2), [(1,)])
        self.assertEqual(simulate(self.plant, [1, 1, 1, 1], 2), [(2,)] * 4)

    def test_wide_ranges_are_not_listed(self):
        variables = (("p.x", 0, WIDE, 0, WIDE),)
        plant = (variables, (part(0, 1, move((0, num(0), num(WIDE)))),), ())
        self.assertRaises(TooMany, simulate, plant, [0], 200)
        self.assertEqual(simulate(plant, [], 200), [])
        plant = ((("p.x", 0, WIDE, 5, 5),), plant[1], ())
        self.assertEqual(simulate(plant, [9], 200), [(5,)])
        self.assertRaises(TooMany, simulate, plant, [9, 9], 200)

    def test_dead_end_beside_a_wide_part(self):
        wide = part(0, 1, move((0, num(0), num(WIDE))))
        plant = ((("p.x", 0, WIDE, 5, 5),), (wide, part(1, 0, move(guard=FALSE))), ())
        self.assertEqual(simulate(plant, [0, 0, 0], 1), [(5,)])

    def test_plant_without_variables(self):
        self.assertEqual(simulate(((), (), ()), [3, 4, 5], 1), [(), (), ()])

    def test_it_is_a_run(self):
        for choices in itertools.product(range(4), repeat=4):
            self.assertTrue(is_run(self.plant, simulate(self.plant, choices, 9)))

    def test_arguments_stay_and_the_result_is_new(self):
        choices = [0, 0]
        simulate(self.plant, choices, 9).clear()
        self.assertEqual(choices, [0, 0])
        self.assertEqual(simulate(self.plant, choices, 9), [(1,), (4,)])


class TestReadingsOf(unittest.TestCase):
    def setUp(self):
        self.plant = walker((1,), (2,), (), sensors=[("a", var(0), 1, True), ("b", add(var(0), 5), 0, True)])
        self.run_of_three = [(0,), (1,), (2,)]

    def test_choices_pick_in_order(self):
        self.assertEqual(readings_of(self.plant, [(0,)], [0], 8), [(-1, 5)])
        self.assertEqual(readings_of(self.plant, self.run_of_three, [0, 3, 6], 8), [(-1, 5), (1, None), (None, 7)])
        self.assertEqual(readings_of(self.plant, self.run_of_three, (7, 2, 5), 8), [(None, None), (1, 6), (3, None)])

    def test_each_choice(self):
        listed = readings_at(self.plant, (0,))
        self.assertEqual(len(listed), 8)
        for choice in range(30):
            self.assertEqual(readings_of(self.plant, [(0,)], [choice], 8), [listed[choice % 8]])

    def test_great_choices(self):
        self.assertEqual(readings_of(self.plant, [(0,)], [8 * 10 ** 30 + 1], 8), [(-1, None)])

    def test_lists_and_tuples(self):
        expected = [(0, 5), (0, 6)]
        for run in [[(0,), (1,)], [[0], [1]], ((0,), (1,)), ([0], [1])]:
            self.assertEqual(readings_of(self.plant, run, [2, 0], 8), expected)
            self.assertEqual(readings_of(self.plant, run, (2, 0), 8), expected)

    def test_no_run_comes_first(self):
        for run in [[], [(1,)], [(0,), (2,)], [(0,), (1, 1)]]:
            self.assertRaises(NotARun, readings_of, self.plant, run, [0] * len(run), 8)
            self.assertRaises(NotARun, readings_of, self.plant, run, [0] * 9, 0)

    def test_wrong_choices_come_before_too_many_readings(self):
        for choices in [[], [0, 0], [0, 0, 0, 0]]:
            self.assertRaises(WrongChoices, readings_of, self.plant, self.run_of_three, choices, 8)
            self.assertRaises(WrongChoices, readings_of, self.plant, self.run_of_three, choices, 0)

    def test_too_many_readings(self):
        with self.assertRaises(TooMany) as caught:
            readings_of(self.plant, self.run_of_three, [0, 0, 0], 7)
        self.assertEqual(caught.exception.what, "readings")
        self.assertEqual(len(readings_of(self.plant, self.run_of_three, [0, 0, 0], 8)), 3)

    def test_wide_errors_are_not_listed(self):
        plant = walker((0,), sensors=[("wide", var(0), 1000, True)] * 8)
        self.assertRaises(TooMany, readings_of, plant, [(0,)], [0], 200)

    def test_no_sensor(self):
        self.assertEqual(readings_of(walker((0,)), [(0,), (0,)], [5, 6], 1), [(), ()])

    def test_arguments_stay_and_the_result_is_new(self):
        run, choices = [[0], [1]], [0, 0]
        readings_of(self.plant, run, choices, 8).clear()
        self.assertEqual((run, choices), ([[0], [1]], [0, 0]))
        self.assertEqual(len(readings_of(self.plant, run, choices, 8)), 2)


if __name__ == "__main__":
    unittest.main()
