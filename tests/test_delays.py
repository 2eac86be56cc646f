"""Delays: points [53] to [58], and the interface of wardens/delays.py."""

import unittest

from definitions import doubted, hidden_pairs, never_told_apart, walk_of
from samples import at, chance_from, fact, less, num, random_lamp_walker, random_requirement, same, var, walker
from wardens.delays import confused, delay, doubt, hidden, tolerance
from wardens.errors import TooMany
from wardens.memory import weight
from wardens.names import compile_source
from wardens.tracking import track
from wardens.twins import share, shared_reading, twins
from wardens.unfolding import is_run, unfold

EXACT = ("exact", var(0), 0, False)
BLIND = ("blind", num(0), 0, False)
# 0 begins, then come 1, which meets R, or 2; SPLIT shows at 3 and 4, LATE at 5 and 6 which it was.
SPLIT = walker((1, 2), (3,), (4,), (3,), (4,), sensors=[("late", ("max", var(0), num(2)), 0, False)])
LATE = walker((1, 2), (3,), (4,), (5,), (6,), (5,), (6,), sensors=[("late", ("max", var(0), num(4)), 0, False)])
APART = walker((1, 2), (1,), (2,), sensors=[BLIND])


def by_ten(*steps):
    """The values 0, 10, 20 and so on of the sensor stand for 0, 1, 2 and so on."""
    return walker(*steps, sensors=[("s", ("mul", var(0), num(10)), 3, False)])


def once_tracked(plant, requirement=fact(1)):
    return track(unfold(plant, 99), ("once", requirement), 400)


def lists(*rows_of_numbers):
    """A tuple of lists of values and readings, from numbers."""
    return tuple([(number,) for number in row] for row in rows_of_numbers)


def functions():
    """All functions that go through twins, with arguments for a plant with one sensor."""
    return [
        (delay, ()), (doubt, ()), (confused, ()), (hidden, (0,)), (hidden, (7,)),
        (tolerance, (0, 0)), (tolerance, (0, 7)),
    ]


class TestDelay(unittest.TestCase):
    def test_at_once(self):
        for sensors in ([EXACT], [("rough", var(0), 0, False), BLIND]):
            plant = walker((1, 2), (1,), (2,), sensors=sensors)
            self.assertEqual(delay(plant, once_tracked(plant), 99), 0)

    def test_requirement_that_all_meet_or_none(self):
        for requirement in (fact(0), fact(7), ("not", fact(7))):
            self.assertEqual(delay(APART, once_tracked(APART, requirement), 99), 0)

    def test_one_and_more(self):
        self.assertEqual(delay(SPLIT, once_tracked(SPLIT), 99), 1)
        self.assertEqual(delay(LATE, once_tracked(LATE), 99), 2)

    def test_none(self):
        self.assertIsNone(delay(APART, once_tracked(APART), 99))

    def test_longest_of_several_rows(self):
        # From the beginning 1 and 3 meet R. (1, 2) hides R for one tick, (3, 2) for two.
        sensors = [("s", ("max", var(0), num(4)), 0, False)]
        plant = walker((1, 2, 3), (5,), (4,), (4,), (6, 7), (5,), (6,), (7,), sensors=sensors)
        both = ("fact", ("or", at(1), at(3)))
        self.assertEqual(delay(plant, once_tracked(plant, both), 99), None)
        plant = walker((1, 2, 3), (5,), (4,), (4,), (), (5,), sensors=sensors)
        self.assertEqual(delay(plant, once_tracked(plant, both), 99), 2)
        plant = walker((1, 2, 3), (5,), (4,), (6,), (), (5,), (6,), sensors=sensors)
        self.assertEqual(delay(plant, once_tracked(plant, both), 99), 1)

    def test_rows_end_where_the_second_run_meets_the_requirement(self):
        plant = walker((1, 2), (1,), (3,), (1,), sensors=[BLIND])
        self.assertEqual(delay(plant, once_tracked(plant), 99), 2)

    def test_dead_ends(self):
        plant = walker((1, 2), (), (2,), sensors=[BLIND])
        self.assertEqual(delay(plant, once_tracked(plant), 99), 1)

    def test_source(self):
        plant, _, requirements = compile_source(
            "part lamp { var ok : 0..1 from 1; var warm : 0..2 from 2; move run when ok = 1 do warm := 2;"
            " move cool when ok = 0 do warm := warm - 1; move rest when ok = 0 and warm = 0; move burn do ok := 0; }"
            " sensor heat = warm; require broken = ok = 0;"
        )
        tracked = once_tracked(plant, requirements[0][1])
        # While it is broken, it may burn again and again, and then it does not cool.
        self.assertIsNone(delay(plant, tracked, 99))
        way, around = confused(plant, tracked, 99)
        self.assertEqual(way, ([(1, 2), (0, 2)], [(1, 2), (1, 2)], [(2,), (2,)]))
        self.assertEqual(around, ([(0, 2)], [(1, 2)], [(2,)]))


class TestHidden(unittest.TestCase):
    def test_below_at_and_above_the_delay(self):
        tracked = once_tracked(LATE)
        self.assertEqual(hidden(LATE, tracked, 0, 99), lists([0, 1], [0, 2], [4, 4]))
        self.assertEqual(hidden(LATE, tracked, 1, 99), lists([0, 1, 3], [0, 2, 4], [4, 4, 4]))
        for ticks in (2, 3, 100):
            self.assertIsNone(hidden(LATE, tracked, ticks, 99))

    def test_never_told(self):
        tracked = once_tracked(APART)
        for ticks in (0, 1, 5, 100):
            self.assertEqual(hidden(APART, tracked, ticks, 99),
                             lists([0] + [1] * (ticks + 1), [0] + [2] * (ticks + 1), [0] * (ticks + 2)))

    def test_nothing_hides(self):
        plant = walker((1, 2), (1,), (2,), sensors=[EXACT])
        self.assertIsNone(hidden(plant, once_tracked(plant), 0, 99))

    def test_least_pairs(self):
        plant = walker((1, 2, 3, 4), (1,), (2,), (3,), (4,), sensors=[BLIND])
        met = ("fact", ("holds", ("and", less(0, 4), ("not", less(0, 2)))))
        # 1 and 4 do not meet R, 2 and 3 do.
        self.assertEqual(hidden(plant, once_tracked(plant, met), 0, 99), lists([0, 2], [0, 1], [0, 0]))
        met = ("fact", ("holds", ("not", less(0, 2))))
        self.assertEqual(hidden(plant, once_tracked(plant, met), 1, 99), lists([0, 2, 2], [0, 1, 1], [0] * 3))

    def test_least_pair_that_hides_for_long_enough(self):
        plant = walker((1, 2, 3), (), (2,), (3,), sensors=[BLIND])
        met = ("fact", ("holds", ("and", less(0, 3), ("not", same(0, 0)))))
        tracked = once_tracked(plant, met)
        self.assertEqual(hidden(plant, tracked, 0, 99), lists([0, 1], [0, 3], [0, 0]))
        self.assertEqual(hidden(plant, tracked, 1, 99), lists([0, 2, 2], [0, 3, 3], [0] * 3))

    def test_least_pair_behind_that_hides_for_long_enough(self):
        plant = walker((1, 2), (3, 4, 5), (2,), (), (6,), (5,), (), sensors=[BLIND])
        tracked = once_tracked(plant)
        self.assertEqual(hidden(plant, tracked, 1, 99), lists([0, 1, 3], [0, 2, 2], [0] * 3))
        self.assertEqual(hidden(plant, tracked, 2, 99), lists([0, 1, 4, 6], [0, 2, 2, 2], [0] * 4))
        self.assertEqual(hidden(plant, tracked, 3, 99), lists([0, 1, 5, 5, 5], [0, 2, 2, 2, 2], [0] * 5))

    def test_pairs_are_compared_by_the_numbers_of_tracked_states(self):
        # 4 gets its number before 1, since it comes first among the next values of 0.
        plant = walker((4, 1, 2), (1,), (2,), (), (4,), sensors=[BLIND])
        met = ("fact", ("or", at(1), at(4)))
        self.assertEqual(hidden(plant, once_tracked(plant, met), 1, 99), lists([0, 4, 4], [0, 2, 2], [0] * 3))

    def test_earliest_difference_counts_first(self):
        # Over 1 and 2, the pair of tick 3 is (4, 5); over 1 and 1 it is (3, 5), which is less, but later.
        plant = walker((2, 1), (3, 5), (4,), (3,), (4,), (5,), sensors=[BLIND])
        met = ("fact", ("or", at(3), at(4)))
        tracked = once_tracked(plant, met)
        numbers = [values for values, _ in tracked[0]]
        self.assertEqual(numbers[:3], [(0,), (2,), (1,)])
        self.assertEqual(hidden(plant, tracked, 0, 99), lists([0, 2, 4], [0, 1, 5], [0] * 3))

    def test_fewest_ticks(self):
        # The least pair comes late: R is met over 1 only behind 3.
        plant = walker((1, 2, 5), (3,), (2,), (4,), (4,), (5,), sensors=[BLIND])
        met = ("fact", ("or", at(2), at(4)))
        self.assertEqual(hidden(plant, once_tracked(plant, met), 0, 99), lists([0, 2], [0, 1], [0, 0]))

    def test_readings(self):
        sensors = [("rough", ("mul", var(0), num(3)), 2, False), ("lost", var(0), 0, True), EXACT]
        plant = walker((1, 2), (1,), (2,), sensors=sensors[:2])
        self.assertEqual(hidden(plant, once_tracked(plant), 1, 99), (
            [(0,), (1,), (1,)], [(0,), (2,), (2,)], [(-2, 0), (4, None), (4, None)],
        ))

    def test_several_starts(self):
        plant = walker((0,), (1,), (2,), first=(0, 2), sensors=[BLIND])
        self.assertEqual(hidden(plant, once_tracked(plant), 1, 99), lists([1, 1], [0, 0], [0, 0]))

    def test_results_are_new(self):
        tracked = once_tracked(LATE)
        for made in hidden(LATE, tracked, 0, 99):
            made.clear()
        self.assertEqual(hidden(LATE, tracked, 0, 99), lists([0, 1], [0, 2], [4, 4]))

    def test_against_the_definition(self):
        chance = chance_from(90)
        for _ in range(150):
            plant = random_lamp_walker(chance, 5)
            machine, requirement = unfold(plant, 9), random_requirement(chance, 1, 4)
            if weight(requirement) > 6:
                continue
            tracked = once_tracked(plant, requirement)
            told = delay(plant, tracked, 999)
            for ticks in range(4):
                found = hidden(plant, tracked, ticks, 999)
                self.assertEqual(found is None, told is not None and told <= ticks)
                expected = hidden_pairs(plant, machine, requirement, ticks, 5)
                if found is None or len(found[0]) > 5:
                    self.assertEqual(expected, [])
                    continue
                first = min(expected, key=lambda runs: list(zip(*[
                    walk_of(machine, tracked, ("once", requirement), run) for run in runs])))
                self.assertEqual(found[:2], first)
                self.assertEqual(found[2], [shared_reading(plant, *both) for both in zip(*first)])


class TestConfused(unittest.TestCase):
    def test_none_where_there_is_a_delay(self):
        for plant in (SPLIT, LATE, walker((1, 2), (1,), (2,), sensors=[EXACT])):
            self.assertIsNone(confused(plant, once_tracked(plant), 99))
        self.assertIsNone(confused(APART, once_tracked(APART, fact(0)), 99))

    def test_round_of_one_pair(self):
        self.assertEqual(confused(APART, once_tracked(APART), 99), (lists([0, 1], [0, 2], [0, 0]), lists([1], [2], [0])))

    def test_round_of_several_pairs(self):
        # 1 goes on to 3 and back, 2 stays.
        plant = walker((1, 2), (3,), (2,), (1,), sensors=[BLIND])
        self.assertEqual(confused(plant, once_tracked(plant), 99), (
            lists([0, 1], [0, 2], [0, 0]), lists([3, 1], [2, 2], [0, 0]),
        ))

    def test_round_within_hiding_pairs_only(self):
        # (0, 0) is on a round, but R is not hidden there; behind (1, 2) all ends.
        plant = walker((0, 1, 2), (), (), sensors=[BLIND])
        self.assertIsNone(confused(plant, once_tracked(plant), 99))
        plant = walker((0, 1, 2), (3,), (2,), (3,), sensors=[BLIND])
        self.assertEqual(confused(plant, once_tracked(plant), 99), (
            lists([0, 1, 3], [0, 0, 0], [0, 0, 0]), lists([3], [0], [0]),
        ))

    def test_several_ways(self):
        # 1 and 2 meet R; both ways have two ticks, and the pair of 1 comes first.
        plant = walker((3, 2, 1), (1,), (2,), (3,), sensors=[BLIND])
        met = ("fact", ("or", at(1), at(2)))
        self.assertEqual(confused(plant, once_tracked(plant, met), 99), (
            lists([0, 2], [0, 3], [0, 0]), lists([2], [3], [0]),
        ))

    def test_way_with_fewest_ticks_to_a_pair_with_a_round(self):
        # (1, 2) hides R after one tick, but has no round; (3, 4) has one.
        plant = walker((1, 2), (3,), (4,), (3,), (4,), sensors=[BLIND])
        self.assertEqual(confused(plant, once_tracked(plant), 99), (
            lists([0, 1, 3], [0, 2, 4], [0, 0, 0]), lists([3], [4], [0]),
        ))

    def test_several_rounds(self):
        # From 1 back to 1 lead 3 and 4, or 6, or 5: one of the shorter ones, and 6 has a lower number than 5.
        plant = walker((1, 2), (3, 6, 5), (2,), (4,), (1,), (1,), (1,), sensors=[BLIND])
        self.assertEqual(confused(plant, once_tracked(plant), 99), (
            lists([0, 1], [0, 2], [0, 0]), lists([6, 1], [2, 2], [0, 0]),
        ))

    def test_what_follows_after_the_way(self):
        chance = chance_from(91)
        found = 0
        for _ in range(200):
            plant = random_lamp_walker(chance, 5)
            tracked = once_tracked(plant, fact(chance.randrange(4)))
            told = confused(plant, tracked, 999)
            self.assertEqual(told is None, delay(plant, tracked, 999) is not None)
            if told is None:
                continue
            found += 1
            (one, other, readings), (one_more, other_more, readings_more) = told
            self.assertTrue(is_run(plant, one + one_more * 3) and is_run(plant, other + other_more * 3))
            self.assertTrue(all(share(plant, *both) for both in zip(one + one_more, other + other_more)))
            self.assertEqual(readings + readings_more,
                             [shared_reading(plant, *both) for both in zip(one + one_more, other + other_more)])
            self.assertEqual((one[-1], other[-1]), (one_more[-1], other_more[-1]))
        self.assertGreater(found, 20)

    def test_against_the_definition(self):
        chance = chance_from(92)
        for _ in range(200):
            plant = random_lamp_walker(chance, 5)
            tracked = once_tracked(plant, fact(chance.randrange(4)))
            found, expected = confused(plant, tracked, 999), never_told_apart(plant, tracked, 6)
            self.assertEqual(found is None, expected is None)
            for told, pairs in zip(found or (), expected or ()):
                if pairs is None:
                    self.assertGreater(len(told[0]), 6)
                else:
                    values = [[tracked[0][number][0] for number in row] for row in zip(*pairs)]
                    self.assertEqual(list(told[:2]), values)

    def test_results_are_new(self):
        tracked = once_tracked(APART)
        for rows_told in confused(APART, tracked, 99):
            for made in rows_told:
                made.clear()
        self.assertEqual(confused(APART, tracked, 99)[1], lists([1], [2], [0]))


class TestDoubt(unittest.TestCase):
    def doubt(self, plant, requirement=fact(1)):
        return doubt(plant, track(unfold(plant, 99), requirement, 400), 99)

    def test_no_doubt(self):
        self.assertEqual(self.doubt(walker((1, 2), (1,), (2,), sensors=[EXACT])), 0)
        self.assertEqual(self.doubt(APART, fact(0)), 0)
        self.assertEqual(self.doubt(APART, fact(7)), 0)

    def test_more(self):
        self.assertEqual(self.doubt(SPLIT), 1)
        self.assertEqual(self.doubt(LATE), 2)

    def test_further_pairs_are_any_twins(self):
        # 1 and 2 are followed by 3 alone: R is no matter there, but of the tick before nothing more is learnt.
        plant = walker((1, 2), (3,), (3,), (4,), (), sensors=[BLIND])
        self.assertEqual(self.doubt(plant), 3)

    def test_none(self):
        self.assertIsNone(self.doubt(APART))
        # They differ at one tick only.
        self.assertIsNone(self.doubt(walker((1, 2), (3,), (3,), (3,), sensors=[BLIND])))

    def test_rounds_that_come_before_only(self):
        plant = walker((0, 1, 2), (), (), sensors=[BLIND])
        self.assertEqual(self.doubt(plant), 1)

    def test_both_orders_of_a_pair(self):
        plant = walker((1, 2), (3,), (3,), (), sensors=[BLIND])
        for requirement in (fact(1), fact(2), ("not", fact(1))):
            self.assertEqual(self.doubt(plant, requirement), 2)

    def test_against_the_definition(self):
        chance = chance_from(93)
        for _ in range(80):
            plant = random_lamp_walker(chance, 4)
            machine, requirement = unfold(plant, 9), random_requirement(chance, 1, 3)
            if weight(requirement) > 6:
                continue
            found = doubt(plant, track(machine, requirement, 99), 999)
            for ticks in range(3):
                if doubted(plant, machine, requirement, ticks, 5):
                    self.assertTrue(found is None or found > ticks)
            if found:
                self.assertTrue(doubted(plant, machine, requirement, found - 1, found + 7))


class TestTolerance(unittest.TestCase):
    def test_between(self):
        plant = by_ten((1, 2), (1,), (2,))
        tracked = once_tracked(plant)
        for ticks in (0, 1, 100):
            self.assertEqual(tolerance(plant, tracked, 0, ticks, 99), 4)

    def test_more_ticks(self):
        # 1 and 2 differ by 10, 3 and 7 by 40.
        plant = by_ten((1, 2), (3,), (7,), (3,), (), (), (), (7,))
        tracked = once_tracked(plant)
        self.assertEqual([tolerance(plant, tracked, 0, ticks, 99) for ticks in (0, 1, 2)], [4, 19, 19])

    def test_largest(self):
        for factor, expected in [(2001, 1000), (2000, 999), (1999, 999), (1998, 998), (2, 0), (1, 0)]:
            plant = walker((1, 2), (1,), (2,), sensors=[("s", ("mul", var(0), num(factor)), 5, False)])
            self.assertEqual(tolerance(plant, once_tracked(plant), 0, 0, 99), expected, factor)

    def test_largest_where_nothing_hides(self):
        self.assertEqual(tolerance(APART, once_tracked(APART, fact(0)), 0, 0, 99), 1000)

    def test_none(self):
        self.assertIsNone(tolerance(APART, once_tracked(APART), 0, 5, 99))
        self.assertIsNone(tolerance(SPLIT, once_tracked(SPLIT), 0, 0, 99))
        self.assertEqual(tolerance(SPLIT, once_tracked(SPLIT), 0, 1, 99), 0)
        plant = walker((1, 2), (1,), (2,), sensors=[("s", ("mul", var(0), num(10)), 0, True)])
        self.assertIsNone(tolerance(plant, once_tracked(plant), 0, 5, 99))

    def test_error_of_the_sensor_is_no_matter(self):
        for error in (0, 4, 5, 1000):
            plant = walker((1, 2), (1,), (2,), sensors=[("s", ("mul", var(0), num(10)), error, False)])
            self.assertEqual(tolerance(plant, once_tracked(plant), 0, 1, 99), 4)

    def test_other_sensors_are_as_they_are(self):
        tens, hundreds = ("mul", var(0), num(10)), ("mul", var(0), num(100))
        for error, expected in [(0, 1000), (49, 1000), (50, 4), (60, 4)]:
            sensors = [BLIND, ("t", tens, 7, False), ("h", hundreds, error, False), BLIND]
            plant = walker((1, 2), (1,), (2,), sensors=sensors)
            self.assertEqual(tolerance(plant, once_tracked(plant), 1, 3, 99), expected)
        sensors = [("t", tens, 5, False), ("h", hundreds, 60, False)]
        plant = walker((1, 2), (1,), (2,), sensors=sensors)
        self.assertEqual(tolerance(plant, once_tracked(plant), 1, 3, 99), 49)
        self.assertEqual(plant[2], tuple(sensors))

    def test_too_many_with_the_error_1000(self):
        plant = by_ten((1, 2), (1,), (2,))
        tracked = once_tracked(plant)
        self.assertEqual(len(twins(plant, tracked, 99)), 3)
        self.assertEqual(tolerance(plant, tracked, 0, 0, 5), 4)
        for requirement in (fact(1), fact(0), fact(7)):
            with self.assertRaises(TooMany) as caught:
                tolerance(plant, once_tracked(plant, requirement), 0, 0, 4)
            self.assertEqual(caught.exception.what, "twins")

    def test_own_error_that_would_be_too_many_is_no_matter(self):
        far = ("far", ("mul", var(0), num(3000)), 2000, False)
        plant = walker((1, 2), (1,), (2,), sensors=[far])
        tracked = once_tracked(plant)
        self.assertEqual(len(twins(plant, tracked, 99)), 5)
        self.assertEqual(tolerance(plant, tracked, 0, 0, 3), 1000)

    def test_against_the_definition(self):
        chance = chance_from(94)
        for _ in range(60):
            plant = random_lamp_walker(chance, 5)
            name, term, _, lossy = plant[2][0]
            tracked = once_tracked(plant, fact(chance.randrange(4)))
            for ticks in (0, 1, 2):
                told = []
                for error in (0, 1, 2, 3, 4, 5, 1000):
                    found = delay((plant[0], plant[1], ((name, term, error, lossy),)), tracked, 999)
                    told.append(found is not None and found <= ticks)
                expected = None if not told[0] else told[:6].count(True) - 1 if not told[-1] else 1000
                self.assertEqual(tolerance(plant, tracked, 0, ticks, 999), expected)


class TestLimits(unittest.TestCase):
    def test_at_the_limit_and_one_beyond_it(self):
        for plant, count in [(APART, 5), (walker((1, 2, 3), (1,), (2,), (), sensors=[BLIND]), 10)]:
            tracked = once_tracked(plant)
            self.assertEqual(len(twins(plant, tracked, 99)), count)
            for function, arguments in functions():
                function(plant, tracked, *arguments, count)
                for most in (0, 1, count - 1):
                    with self.assertRaises(TooMany, msg=function.__name__) as caught:
                        function(plant, tracked, *arguments, most)
                    self.assertEqual(caught.exception.what, "twins")

    def test_most_that_count_are_all_twins(self):
        # There is no pair that hides R, and still they count.
        tracked = once_tracked(APART, fact(0))
        for function, arguments in functions():
            with self.assertRaises(TooMany):
                function(APART, tracked, *arguments, 4)


if __name__ == "__main__":
    unittest.main()
