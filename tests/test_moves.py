"""Steps: points [24], [26], [27] and [30], and the interface of wardens/moves.py."""

import unittest

from samples import FALSE, add, less, move, num, part, rows, same, var
from wardens.moves import count_next, leads_to, next_values

WIDE = 10 ** 9


def to(v, low, high=None):
    """The setting of a variable to integers that are written out."""
    return (v, num(low), num(low if high is None else high))


def plant_of(variables, *parts):
    return (variables, parts, ())


class TestOneMove(unittest.TestCase):
    def test_values_of_one_variable_ascend(self):
        plant = plant_of(rows((-3, 9)), part(0, 1, move(to(0, -2, 2))))
        self.assertEqual(next_values(plant, (0,), 9), [(-2,), (-1,), (0,), (1,), (2,)])
        self.assertEqual(count_next(plant, (0,), 9), 5)

    def test_values_of_two_variables_ascend_by_the_first_whatever_the_order_of_the_settings(self):
        expected = [(0, 5), (0, 6), (0, 7), (1, 5), (1, 6), (1, 7)]
        for settings in ([to(0, 0, 1), to(1, 5, 7)], [to(1, 5, 7), to(0, 0, 1)]):
            plant = plant_of(rows((0, 9), (0, 9)), part(0, 2, move(*settings)))
            self.assertEqual(next_values(plant, (3, 3), 9), expected)
            self.assertEqual(count_next(plant, (3, 3), 9), 6)

    def test_variables_that_are_not_set_keep_their_values(self):
        plant = plant_of(rows((0, 9), (0, 9), (0, 9)), part(0, 3, move(to(1, 2, 3))))
        self.assertEqual(next_values(plant, (7, 0, 8), 9), [(7, 2, 8), (7, 3, 8)])

    def test_move_that_sets_nothing(self):
        plant = plant_of(rows((0, 9), (0, 9)), part(0, 2, move()))
        self.assertEqual(next_values(plant, (4, 5), 9), [(4, 5)])
        self.assertEqual(count_next(plant, (4, 5), 9), 1)

    def test_guard(self):
        plant = plant_of(rows((0, 9)), part(0, 1, move(to(0, 1), guard=less(0, 3)), move(to(0, 2))))
        self.assertEqual(next_values(plant, (2,), 9), [(1,), (2,)])
        self.assertEqual(next_values(plant, (3,), 9), [(2,)])

    def test_terms_and_guards_have_the_values_before(self):
        plant = plant_of(rows((0, 9), (0, 9)), part(0, 2, move((0, var(1), var(1)), (1, var(0), var(0)))))
        self.assertEqual(next_values(plant, (3, 8), 9), [(8, 3)])

    def test_one_variable_twice_in_a_span(self):
        plant = plant_of(rows((0, 9)), part(0, 1, move((0, add(var(0), -1), add(var(0), 1)))))
        self.assertEqual(next_values(plant, (4,), 9), [(3,), (4,), (5,)])


class TestSpansAndRanges(unittest.TestCase):
    def spans(self, low, high):
        plant = plant_of(rows((2, 5)), part(0, 1, move(to(0, low, high))))
        listed = next_values(plant, (3,), 99)
        self.assertEqual(count_next(plant, (3,), 99), len(listed))
        return [values[0] for values in listed]

    def test_only_some_are_within_the_range(self):
        self.assertEqual(self.spans(0, 3), [2, 3])
        self.assertEqual(self.spans(4, 9), [4, 5])
        self.assertEqual(self.spans(-100, 100), [2, 3, 4, 5])
        self.assertEqual(self.spans(5, 6), [5])
        self.assertEqual(self.spans(1, 2), [2])

    def test_none_is_within_the_range(self):
        self.assertEqual(self.spans(6, 9), [])
        self.assertEqual(self.spans(6, 6), [])
        self.assertEqual(self.spans(-4, 1), [])
        self.assertEqual(self.spans(1, 1), [])

    def test_span_from_high_to_low(self):
        self.assertEqual(self.spans(4, 3), [])
        self.assertEqual(self.spans(9, 0), [])
        self.assertEqual(self.spans(4, 4), [4])

    def test_two_spans_from_high_to_low(self):
        plant = plant_of(rows((0, 9), (0, 9)), part(0, 2, move(to(0, 9, 0), to(1, 8, 1))))
        self.assertEqual(next_values(plant, (5, 5), 99), [])
        self.assertEqual(count_next(plant, (5, 5), 99), 0)
        self.assertFalse(leads_to(plant, (5, 5), (5, 5)))

    def test_each_variable_needs_an_allowed_integer(self):
        plant = plant_of(rows((0, 9), (0, 9)), part(0, 2, move(to(0, 1), to(1, 10)), move(to(0, 2))))
        self.assertEqual(next_values(plant, (5, 5), 9), [(2, 5)])
        self.assertTrue(leads_to(plant, (5, 5), (2, 5)))
        self.assertFalse(leads_to(plant, (5, 5), (1, 5)))
        self.assertFalse(leads_to(plant, (5, 5), (1, 10)))

    def test_each_variable_has_its_own_range(self):
        plant = plant_of(rows((0, 1), (10, 11)), part(0, 2, move(to(0, -5, 50), to(1, -5, 50))))
        self.assertEqual(next_values(plant, (0, 10), 9), [(0, 10), (0, 11), (1, 10), (1, 11)])


class TestSeveralMoves(unittest.TestCase):
    def test_those_of_the_first_move_come_first(self):
        plant = plant_of(rows((0, 9)), part(0, 1, move(to(0, 7)), move(to(0, 1)), move(to(0, 4))))
        self.assertEqual(next_values(plant, (0,), 9), [(7,), (1,), (4,)])

    def test_each_once_at_its_first_place(self):
        plant = plant_of(rows((0, 9)), part(0, 1, move(to(0, 2, 3)), move(to(0, 0, 4)), move(to(0, 3, 5))))
        self.assertEqual(next_values(plant, (9,), 9), [(2,), (3,), (0,), (1,), (4,), (5,)])
        self.assertEqual(count_next(plant, (9,), 9), 6)

    def test_moves_with_the_same_values(self):
        plant = plant_of(rows((0, 9)), part(0, 1, move(to(0, 5)), move(), move(to(0, 5))))
        self.assertEqual(next_values(plant, (5,), 1), [(5,)])
        self.assertEqual(count_next(plant, (5,), 1), 1)
        self.assertEqual(next_values(plant, (6,), 2), [(5,), (6,)])

    def test_moves_that_are_not_possible_are_passed_over(self):
        plant = plant_of(rows((0, 3)), part(0, 1, move(to(0, 4)), move(to(0, 3)), move(to(0, 0), guard=FALSE)))
        self.assertEqual(next_values(plant, (0,), 9), [(3,)])


class TestSeveralParts(unittest.TestCase):
    def test_order_by_the_place_of_the_first_parts_values(self):
        plant = plant_of(
            rows((0, 9), (0, 9), (0, 9)), part(0, 1, move(to(0, 2)), move(to(0, 0))),
            part(1, 2, move(to(2, 6)), move(to(1, 0, 1))),
        )
        self.assertEqual(next_values(plant, (5, 5, 5), 9), [
            (2, 5, 6), (2, 0, 5), (2, 1, 5), (0, 5, 6), (0, 0, 5), (0, 1, 5),
        ])
        self.assertEqual(count_next(plant, (5, 5, 5), 9), 6)

    def test_terms_and_guards_about_other_parts_have_the_values_before(self):
        plant = plant_of(
            rows((0, 9), (0, 9)), part(0, 1, move((0, var(1), var(1)))),
            part(1, 1, move((1, var(0), var(0)), guard=same(0, 3)), move(to(1, 9))),
        )
        self.assertEqual(next_values(plant, (3, 8), 9), [(8, 3), (8, 9)])
        self.assertEqual(next_values(plant, (8, 3), 9), [(3, 9)])

    def test_dead_end_if_one_part_has_no_possible_move(self):
        stuck = part(1, 1, move(to(1, 1), guard=FALSE), move(to(1, 10)))
        free = (part(0, 1, move(to(0, 0, 9))), part(2, 1, move(to(2, 0, 9))))
        plant = plant_of(rows((0, 9), (0, 9), (0, 9)), free[0], stuck, free[1])
        self.assertEqual(next_values(plant, (5, 5, 5), 99), [])
        self.assertEqual(count_next(plant, (5, 5, 5), 99), 0)
        self.assertFalse(leads_to(plant, (5, 5, 5), (5, 5, 5)))

    def test_part_without_any_move(self):
        plant = plant_of(rows((0, 9)), part(0, 1))
        self.assertEqual(next_values(plant, (5,), 9), [])
        self.assertEqual(count_next(plant, (5,), 9), 0)
        self.assertFalse(leads_to(plant, (5,), (5,)))

    def test_part_without_variables(self):
        clock = part(0, 0, move(guard=less(0, 3)))
        plant = plant_of(rows((0, 9)), clock, part(0, 1, move(to(0, 1, 2))))
        self.assertEqual(next_values(plant, (2,), 9), [(1,), (2,)])
        self.assertEqual(next_values(plant, (3,), 9), [])
        self.assertEqual(count_next(plant, (3,), 9), 0)
        self.assertTrue(leads_to(plant, (2,), (1,)))
        self.assertFalse(leads_to(plant, (3,), (1,)))

    def test_two_moves_of_a_part_without_variables_count_once(self):
        plant = plant_of(rows((0, 9)), part(0, 0, move(), move()), part(0, 1, move()))
        self.assertEqual(next_values(plant, (2,), 9), [(2,)])
        self.assertEqual(count_next(plant, (2,), 9), 1)

    def test_plant_without_any_variable(self):
        plant = plant_of((), part(0, 0, move()), part(0, 0, move()))
        self.assertEqual(next_values(plant, (), 1), [()])
        self.assertEqual(count_next(plant, (), 1), 1)
        self.assertTrue(leads_to(plant, (), ()))
        plant = plant_of((), part(0, 0, move()), part(0, 0, move(guard=FALSE)))
        self.assertEqual(next_values(plant, (), 1), [])
        self.assertEqual(count_next(plant, (), 1), 0)
        self.assertFalse(leads_to(plant, (), ()))

    def test_plant_without_any_part(self):
        plant = plant_of(())
        self.assertEqual(next_values(plant, (), 1), [()])
        self.assertEqual(count_next(plant, (), 1), 1)
        self.assertEqual(count_next(plant, (), 0), 1)
        self.assertTrue(leads_to(plant, (), []))


class TestCountNext(unittest.TestCase):
    def test_at_the_limit_one_below_and_one_above(self):
        plant = plant_of(rows((0, 9)), part(0, 1, move(to(0, 1, 3)), move(to(0, 3, 4))))
        self.assertEqual([count_next(plant, (0,), most) for most in (0, 1, 2, 3, 4, 5, 100)], [1, 2, 3, 4, 4, 4, 4])

    def test_limit_of_several_parts(self):
        plant = plant_of(rows((0, 9), (0, 9)), part(0, 1, move(to(0, 1, 2))), part(1, 1, move(to(1, 1, 3))))
        self.assertEqual([count_next(plant, (0, 0), most) for most in (1, 2, 3, 4, 5, 6, 7)], [2, 3, 4, 5, 6, 6, 6])

    def test_wide_ranges_are_not_listed(self):
        plant = plant_of(
            rows((0, WIDE), (0, WIDE)), part(0, 1, move(to(0, 0, WIDE)), move(to(0, 5, WIDE))),
            part(1, 1, move(to(1, 7)), move(to(1, 1, WIDE))),
        )
        for most in (0, 1, 2, 200, 1000):
            self.assertEqual(count_next(plant, (0, 0), most), most + 1)

    def test_limit_within_wide_ranges(self):
        plant = plant_of(rows((0, WIDE)), part(0, 1, move((0, var(0), add(var(0), 4)))))
        self.assertEqual(count_next(plant, (WIDE - 2,), 3), 3)
        self.assertEqual(count_next(plant, (WIDE - 3,), 3), 4)
        self.assertEqual(count_next(plant, (WIDE - 4,), 3), 4)
        self.assertEqual(next_values(plant, (WIDE - 2,), 3), [(WIDE - 2,), (WIDE - 1,), (WIDE,)])

    def test_none_if_another_part_has_no_possible_move(self):
        wide = [(part(0, 1, move(to(0, 0, WIDE))), part(1, 1, move(guard=FALSE))),
                (part(0, 1, move(to(0, 0, WIDE))), part(1, 1, move(to(1, -5, -1)))),
                (part(0, 1, move(to(0, 0, WIDE))), part(1, 1, move(to(1, 5, 4)))),
                (part(0, 1, move(guard=FALSE)), part(1, 1, move(to(1, 0, WIDE))))]
        for parts in wide:
            plant = plant_of(rows((0, WIDE), (0, WIDE)), *parts)
            self.assertEqual(count_next(plant, (0, 0), 3), 0)
            self.assertEqual(count_next(plant, (0, 0), 0), 0)
            self.assertEqual(next_values(plant, (0, 0), 0), [])
            self.assertEqual(next_values(plant, (0, 0), 3), [])

    def test_many_overlapping_moves(self):
        moves = [move(to(0, 0, 100 - k)) for k in range(12)]
        plant = plant_of(rows((0, 200)), part(0, 1, *moves))
        self.assertEqual(count_next(plant, (0,), 101), 101)
        self.assertEqual(count_next(plant, (0,), 100), 101)
        self.assertEqual(next_values(plant, (0,), 101), [(n,) for n in range(101)])


class TestLeadsTo(unittest.TestCase):
    def setUp(self):
        self.plant = plant_of(
            rows((0, 5), (0, 5), (-2, 2)), part(0, 2, move(to(0, 1, 9)), move((1, var(2), var(0)), guard=less(1, 4))),
            part(2, 1, move(to(2, -9, -1)), move(to(2, 2))),
        )

    def test_same_as_next_values(self):
        for values in [(3, 2, 0), (0, 4, 2), (5, 3, -2), (2, 0, 2)]:
            following = next_values(self.plant, values, 1000)
            self.assertEqual(count_next(self.plant, values, 1000), len(following))
            for x in range(-1, 7):
                for y in range(-1, 7):
                    for z in range(-3, 4):
                        self.assertIs(leads_to(self.plant, values, (x, y, z)), (x, y, z) in following)
                        self.assertIs(leads_to(self.plant, values, [x, y, z]), (x, y, z) in following)

    def test_numbers_outside_the_ranges(self):
        for later in [(6, 2, 2), (1, 2, -3), (WIDE ** 2, 2, 2), (1, -1, 2), (1, 2, 3)]:
            self.assertFalse(leads_to(self.plant, (3, 2, 0), later))
            self.assertFalse(leads_to(self.plant, (3, 2, 0), list(later)))
        self.assertTrue(leads_to(self.plant, (3, 2, 0), (5, 2, 2)))

    def test_one_move_has_to_lead_to_all_variables_of_a_part(self):
        self.assertTrue(leads_to(self.plant, (3, 2, 0), (1, 2, 2)))
        self.assertTrue(leads_to(self.plant, (3, 2, 0), (3, 0, 2)))
        self.assertFalse(leads_to(self.plant, (3, 2, 0), (1, 0, 2)))

    def test_wide_ranges(self):
        plant = plant_of(rows((0, WIDE)), part(0, 1, move(to(0, 1, WIDE))))
        self.assertTrue(leads_to(plant, (0,), (WIDE,)))
        self.assertFalse(leads_to(plant, (0,), (0,)))
        self.assertFalse(leads_to(plant, (0,), (WIDE + 1,)))


class TestArgumentsAndResults(unittest.TestCase):
    def test_later_values_stay_as_they_are(self):
        plant = plant_of(rows((0, 5)), part(0, 1, move(to(0, 1, 2))))
        later = [2]
        self.assertIs(leads_to(plant, (0,), later), True)
        self.assertEqual(later, [2])

    def test_list_is_new(self):
        for plant in (plant_of(rows((0, 5)), part(0, 1, move(to(0, 1, 2)))), plant_of(())):
            values = (0,) * len(plant[0])
            expected = list(next_values(plant, values, 9))
            next_values(plant, values, 9).append("more")
            self.assertEqual(next_values(plant, values, 9), expected)

    def test_kinds(self):
        plant = plant_of(rows((0, 5)), part(0, 1, move(to(0, 1, 2))))
        self.assertIs(type(next_values(plant, (0,), 9)), list)
        self.assertTrue(all(type(values) is tuple for values in next_values(plant, (0,), 9)))
        self.assertIs(type(count_next(plant, (0,), 9)), int)
        self.assertIs(leads_to(plant, (0,), (0,)), False)


if __name__ == "__main__":
    unittest.main()
