"""States and runs: points [21], [25] and [28] to [30], and the interface of wardens/unfolding.py."""

import unittest

from samples import FALSE, add, chance_from, less, machine_of, move, num, part, random_walker, rows, same, var, walker
from wardens.errors import TooMany
from wardens.moves import next_values
from wardens.names import compile_source
from wardens.unfolding import count_first, dead_ends, first_values, is_run, shortest_to, unfold

WIDE = 10 ** 9


def plant_from(*variables):
    """A plant without steps, from the least and greatest values of variables and their first ones."""
    return (tuple((f"p.v{v}", *ends) for v, ends in enumerate(variables)), (part(0, len(variables)),), ())


def wide_plant(first):
    """A plant whose only move allows a billion values."""
    variables = (("p.x", 0, WIDE, first, first),)
    return (variables, (part(0, 1, move((0, num(1), num(WIDE)), guard=same(0, 3)), move((0, num(3), num(3)))),), ())


class TestFirstValues(unittest.TestCase):
    def test_one_variable(self):
        plant = plant_from((-5, 5, -2, 1))
        self.assertEqual(first_values(plant), [(-2,), (-1,), (0,), (1,)])
        self.assertEqual(count_first(plant), 4)

    def test_order_by_the_first_variable(self):
        plant = plant_from((0, 9, 3, 4), (0, 9, 7, 7), (-1, 9, -1, 1))
        self.assertEqual(first_values(plant), [
            (3, 7, -1), (3, 7, 0), (3, 7, 1), (4, 7, -1), (4, 7, 0), (4, 7, 1),
        ])
        self.assertEqual(count_first(plant), 6)

    def test_variables_of_several_parts(self):
        plant = ((("p.x", 0, 9, 1, 2), ("q.y", 0, 9, 5, 6)), (part(0, 1), part(1, 1)), ())
        self.assertEqual(first_values(plant), [(1, 5), (1, 6), (2, 5), (2, 6)])

    def test_part_without_variables(self):
        plant = ((("p.x", 0, 9, 1, 2),), (part(0, 0, move()), part(0, 1, move())), ())
        self.assertEqual(first_values(plant), [(1,), (2,)])
        self.assertEqual(count_first(plant), 2)

    def test_plant_without_any_variable_or_part(self):
        for parts in [(), (part(0, 0, move()),)]:
            self.assertEqual(first_values(((), parts, ())), [()])
            self.assertEqual(count_first(((), parts, ())), 1)

    def test_wide_ranges_are_counted(self):
        self.assertEqual(count_first(plant_from((-WIDE, WIDE, -WIDE, WIDE))), 2 * WIDE + 1)
        self.assertEqual(count_first(plant_from(*[(0, WIDE, 1, WIDE)] * 12)), WIDE ** 12)
        self.assertEqual(count_first(plant_from((-WIDE, WIDE, 0, 0))), 1)
        self.assertEqual(first_values(plant_from((-WIDE, WIDE, 7, 8))), [(7,), (8,)])

    def test_list_is_new(self):
        plant = plant_from((0, 3, 1, 2))
        first_values(plant).clear()
        self.assertEqual(first_values(plant), [(1,), (2,)])


class TestUnfold(unittest.TestCase):
    def test_order_of_states_starts_and_steps(self):
        plant = walker((), (5, 1), (5, 0), (4, 2), (1,), (3, 5, 0), first=(2, 3))
        self.assertEqual(unfold(plant, 200), (
            ((2,), (3,), (5,), (0,), (4,), (1,)), (0, 1),
            ((2, 3), (4, 0), (1, 2, 3), (), (5,), (2, 5)),
        ))

    def test_only_what_can_be_reached(self):
        plant = walker((1,), (0,), (3,), (2,))
        self.assertEqual(unfold(plant, 200), (((0,), (1,)), (0,), ((1,), (0,))))

    def test_two_parts(self):
        plant = (
            rows((0, 1), (0, 1)), (part(0, 1, move((0, num(1), num(1))), move((0, num(0), num(0)))), part(1, 1, move())), (),
        )
        self.assertEqual(unfold(plant, 4), (
            ((0, 0), (0, 1), (1, 0), (1, 1)), (0, 1, 2, 3), ((2, 0), (3, 1), (2, 0), (3, 1)),
        ))

    def test_source(self):
        plant, _, _ = compile_source(
            "part p { var x : 0..2 from 0; move up do x := x + 1; } part q { var on : {off, up} from off;"
            " move flip when x = 2 do on := 1 - on; move rest; }"
        )
        self.assertEqual(unfold(plant, 200), (((0, 0), (1, 0), (2, 0)), (0,), ((1,), (2,), ())))

    def test_at_the_limit_and_one_beyond_it(self):
        line = walker((1,), (2,), (3,), ())
        self.assertEqual(len(unfold(line, 4)[0]), 4)
        for most in (1, 2, 3):
            with self.assertRaises(TooMany) as caught:
                unfold(line, most)
            self.assertEqual(caught.exception.what, "states")

    def test_limit_with_first_values(self):
        plant = plant_from((0, 9, 2, 4))
        plant = (plant[0], (part(0, 1, move()),), ())
        self.assertEqual(unfold(plant, 3), (((2,), (3,), (4,)), (0, 1, 2), ((0,), (1,), (2,))))
        with self.assertRaises(TooMany) as caught:
            unfold(plant, 2)
        self.assertEqual(caught.exception.what, "states")

    def test_limit_with_next_values(self):
        plant = (rows((0, 4)), (part(0, 1, move((0, num(0), num(4)))),), ())
        plant = ((("p.x", 0, 4, 0, 0),), plant[1], ())
        self.assertEqual(len(unfold(plant, 5)[0]), 5)
        for most in (1, 4):
            self.assertRaises(TooMany, unfold, plant, most)

    def test_limit_is_not_reached_by_values_that_come_twice(self):
        plant = walker((1, 0), (0, 1))
        self.assertEqual(unfold(plant, 2), (((0,), (1,)), (0,), ((1, 0), (0, 1))))

    def test_wide_ranges_are_not_listed(self):
        plant = plant_from((0, WIDE, 0, WIDE))
        for most in (1, 200):
            self.assertRaises(TooMany, unfold, plant, most)
            self.assertRaises(TooMany, unfold, wide_plant(3), most)
        self.assertRaises(TooMany, unfold, wide_plant(8), 200)

    def test_wide_ranges_of_which_little_can_be_reached(self):
        stuck = part(1, 1, move(guard=FALSE))
        free = part(0, 1, move((0, num(0), num(WIDE))))
        plant = ((("p.x", 0, WIDE, 9, 9), ("q.y", 0, WIDE, 8, 8)), (free, stuck), ())
        self.assertEqual(unfold(plant, 1), (((9, 8),), (0,), ((),)))

    def test_plants_without_variables(self):
        self.assertEqual(unfold(((), (), ()), 1), (((),), (0,), ((0,),)))
        self.assertEqual(unfold(((), (part(0, 0, move()),), ()), 1), (((),), (0,), ((0,),)))
        self.assertEqual(unfold(((), (part(0, 0, move(guard=FALSE)),), ()), 1), (((),), (0,), ((),)))

    def test_against_the_definition(self):
        chance = chance_from(1)
        for _ in range(100):
            plant = random_walker(chance, 8)
            states, starts, steps = unfold(plant, 8)
            self.assertEqual([states[number] for number in starts], first_values(plant))
            expected = first_values(plant)
            for values in expected:
                expected.extend([later for later in next_values(plant, values, 8) if later not in expected])
            self.assertEqual(list(states), expected)
            for values, following in zip(states, steps):
                self.assertEqual([states[number] for number in following], next_values(plant, values, 8))
            self.assertRaises(TooMany, unfold, plant, len(states) - 1)

    def test_kinds(self):
        states, starts, steps = unfold(walker((1,), (0,)), 2)
        for made in (states, starts, steps, *states, *steps):
            self.assertIs(type(made), tuple)


class TestIsRun(unittest.TestCase):
    def setUp(self):
        variables = (("p.x", 0, 5, 1, 2), ("q.y", 0, 5, 0, 0))
        self.plant = (
            variables, (part(0, 1, move((0, add(var(0), 1), add(var(0), 2)), guard=less(0, 4))), part(1, 1, move(), move((1, var(0), var(0))))), (),
        )

    def test_runs(self):
        for run in [[(1, 0)], [(2, 0)], [(1, 0), (2, 0)], [(1, 0), (3, 1), (5, 3)], [(2, 0), (4, 2)]]:
            self.assertIs(is_run(self.plant, run), True, run)
            self.assertIs(is_run(self.plant, tuple(run)), True, run)
            self.assertIs(is_run(self.plant, [list(values) for values in run]), True, run)
            self.assertIs(is_run(self.plant, tuple([list(values) for values in run])), True, run)

    def test_empty_list(self):
        self.assertIs(is_run(self.plant, []), False)
        self.assertIs(is_run(self.plant, ()), False)

    def test_first_values_that_are_none(self):
        for values in [(0, 0), (3, 0), (1, 1), (6, 0), (-1, 0)]:
            self.assertIs(is_run(self.plant, [values]), False, values)
        self.assertIs(is_run(self.plant, [(3, 1), (4, 1)]), False)

    def test_steps_that_are_none(self):
        for run in [[(1, 0), (1, 0)], [(1, 0), (2, 2)], [(2, 0), (4, 2), (5, 2)], [(1, 0), (3, 0), (6, 0)]]:
            self.assertIs(is_run(self.plant, run), False, run)
        self.assertIs(is_run(self.plant, [(1, 0), (2, 3), (3, 3)]), False)

    def test_values_of_another_length(self):
        for run in [[()], [(1,)], [(1, 0, 0)], [(1, 0), (2,)], [(1, 0), (2, 0, 0)], [(1, 0), ()], [[1, 0], [2, 0], [3]]]:
            self.assertIs(is_run(self.plant, run), False, run)

    def test_plant_without_variables(self):
        plant = ((), (), ())
        self.assertIs(is_run(plant, [()]), True)
        self.assertIs(is_run(plant, [(), [], ()]), True)
        self.assertIs(is_run(plant, []), False)
        self.assertIs(is_run(plant, [(1,)]), False)
        stuck = ((), (part(0, 0, move(guard=FALSE)),), ())
        self.assertIs(is_run(stuck, [()]), True)
        self.assertIs(is_run(stuck, [(), ()]), False)

    def test_wide_ranges(self):
        self.assertIs(is_run(wide_plant(3), [(3,), (WIDE,), (3,)]), True)
        self.assertIs(is_run(wide_plant(3), [(3,), (0,)]), False)
        self.assertIs(is_run(wide_plant(3), [(3,), (WIDE + 1,), (3,)]), False)

    def test_run_stays_as_it_is(self):
        run = [[1, 0], [2, 1]]
        is_run(self.plant, run)
        self.assertEqual(run, [[1, 0], [2, 1]])


class TestShortestTo(unittest.TestCase):
    def wanted(self, *numbers):
        return [number in numbers for number in range(8)]

    def setUp(self):
        # The states 2 and 3 lead to 4 as well, and 5 leads back; both starts lead to 3.
        self.machine = machine_of(((2, 3), (3, 0), (4, 1), (5, 4), (6,), (2, 6, 7), (), (7,)), starts=(0, 1))

    def test_no_state_wanted(self):
        self.assertIsNone(shortest_to(self.machine, self.wanted()))

    def test_first_states(self):
        self.assertEqual(shortest_to(self.machine, self.wanted(0)), [(0,)])
        self.assertEqual(shortest_to(self.machine, self.wanted(1)), [(1,)])

    def test_state_ahead_has_the_least_number(self):
        self.assertEqual(shortest_to(self.machine, self.wanted(3)), [(0,), (3,)])
        self.assertEqual(shortest_to(self.machine, self.wanted(4)), [(0,), (2,), (4,)])
        self.assertEqual(shortest_to(self.machine, self.wanted(6)), [(0,), (2,), (4,), (6,)])
        self.assertEqual(shortest_to(self.machine, self.wanted(7)), [(0,), (3,), (5,), (7,)])

    def test_least_number_of_several_wanted_states(self):
        self.assertEqual(shortest_to(self.machine, self.wanted(7, 5, 6)), [(0,), (3,), (5,)])
        self.assertEqual(shortest_to(self.machine, self.wanted(1, 3)), [(1,)])
        self.assertEqual(shortest_to(self.machine, [True] * 8), [(0,)])

    def test_against_the_definition(self):
        chance = chance_from(2)
        for _ in range(100):
            plant = random_walker(chance, 8)
            machine = unfold(plant, 8)
            states, starts, steps = machine
            wanted = [chance.random() < 0.3 for _ in states]
            run = shortest_to(machine, wanted)
            if True not in wanted:
                self.assertIsNone(run)
                continue
            self.assertTrue(is_run(plant, run))
            numbers = [states.index(values) for values in run]
            self.assertEqual(numbers[-1], wanted.index(True))
            self.assertIn(numbers[0], starts)
            for before, number in zip(numbers, numbers[1:]):
                self.assertNotIn(number, starts)
                self.assertEqual(before, min(n for n in range(len(states)) if number in steps[n]))

    def test_result_is_new_and_wanted_stays(self):
        wanted = self.wanted(4)
        shortest_to(self.machine, wanted).clear()
        self.assertEqual(wanted, self.wanted(4))
        self.assertEqual(len(shortest_to(self.machine, wanted)), 3)


class TestDeadEnds(unittest.TestCase):
    def test_in_the_order_of_their_numbers(self):
        machine = unfold(walker((), (5, 0), (4, 1), (), (2, 3), (), first=(2, 3)), 9)
        self.assertEqual(machine[0], ((2,), (3,), (4,), (1,), (5,), (0,)))
        self.assertEqual(dead_ends(machine), [(3,), (5,), (0,)])

    def test_none(self):
        self.assertEqual(dead_ends(unfold(walker((1,), (0,)), 9)), [])
        self.assertEqual(dead_ends(unfold(((), (), ()), 9)), [])

    def test_result_is_new(self):
        machine = unfold(walker((1,), ()), 9)
        dead_ends(machine).clear()
        self.assertEqual(dead_ends(machine), [(1,)])


if __name__ == "__main__":
    unittest.main()
