"""The last readings: points [59] to [61], and the interface of wardens/recent.py."""

import unittest

from definitions import forgotten, recent_verdict, rows_over, two_steps
from samples import chance_from, fact, num, random_lamp_walker, random_requirement, var, walker
from wardens.errors import TooMany
from wardens.judging import judge
from wardens.memory import weight
from wardens.names import compile_source
from wardens.recent import least_memory, recent_delay, recent_judge
from wardens.tracking import track
from wardens.twins import twins
from wardens.unfolding import unfold

S, N, U, I = "sure", "never", "unknown", "impossible"
EXACT = ("exact", var(0), 0, False)
BLIND = ("blind", num(0), 0, False)
MINUS_ONE = ("sub", var(0), num(1))
# Shows 1 for 1, and 0 for 0 and 2.
FLASH = ("flash", ("sub", num(1), ("mul", MINUS_ONE, MINUS_ONE)), 0, False)
FLASHING = walker((0, 1), (2,), (2,), sensors=[FLASH])
# 0 and 2 look alike, but 0 comes at the first tick only.
PASSING = walker((1,), (2,), (3,), (3,), sensors=[("s", ("mul", var(0), ("sub", num(2), var(0))), 0, False)])


def once_tracked(plant, requirement=fact(1)):
    return track(unfold(plant, 99), ("once", requirement), 400)


class TestRecentJudge(unittest.TestCase):
    def judge(self, items, memory, plant=FLASHING):
        return recent_judge(plant, once_tracked(plant), [(item,) for item in items], memory)

    def test_memory_less_than_the_number_of_readings(self):
        self.assertEqual([self.judge([0, 1, 0, 0], memory) for memory in (1, 2, 3)], [U, U, S])
        self.assertEqual([self.judge([0, 0, 0, 1], memory) for memory in (1, 2, 3)], [S, S, S])
        self.assertEqual([self.judge([0, 0, 0, 0], memory) for memory in (1, 2, 3)], [U, U, U])

    def test_memory_equal_to_the_number_of_readings(self):
        # A run can have any number of ticks before the readings.
        self.assertEqual(self.judge([0, 0], 2), U)
        self.assertEqual(self.judge([1], 1), S)
        self.assertEqual(self.judge([1, 0], 2), S)
        self.assertEqual(self.judge([0], 1), U)

    def test_memory_greater_than_the_number_of_readings(self):
        # A run has as many ticks as there are readings.
        self.assertEqual(self.judge([0, 0], 3), N)
        self.assertEqual(self.judge([1], 2), I)
        self.assertEqual(self.judge([1, 0], 50), I)
        self.assertEqual(self.judge([0, 1], 3), S)
        self.assertEqual(self.judge([0], 2), N)

    def test_empty_row(self):
        for memory in (1, 2, 50):
            for row in ([], ()):
                self.assertEqual(recent_judge(FLASHING, once_tracked(FLASHING), row, memory), I)

    def test_readings_that_no_run_fits(self):
        self.assertEqual([self.judge([0, 1, 1], memory) for memory in (1, 2, 3, 4)], [S, I, I, I])
        self.assertEqual([self.judge([0, 7], memory) for memory in (1, 2, 3)], [I, I, I])
        self.assertEqual([self.judge([0, None], memory) for memory in (1, 2, 3)], [I, I, I])

    def test_readings_before_the_last_ones_mean_nothing(self):
        for earlier in ([], [7], [1], [1, 1], [None, 0, 7]):
            self.assertEqual(self.judge(earlier + [0, 0], 2), U)
            self.assertEqual(self.judge(earlier + [1, 0], 2), S)
        self.assertEqual(self.judge([7, 0, 0], 3), I)
        row = [(), (0, 0), (0,), (0,)]
        self.assertEqual([recent_judge(FLASHING, once_tracked(FLASHING), row, memory) for memory in (1, 2, 3, 4, 5)],
                         [U, U, I, I, I])

    def test_readings_of_another_length(self):
        for row in [[()], [(0, 0)], [(0,), ()], [(), (0,)], [(0, 1), (0, 1)]]:
            for memory in (2, 3):
                self.assertEqual(recent_judge(FLASHING, once_tracked(FLASHING), row, memory), I)

    def test_each_verdict(self):
        tracked = track(unfold(FLASHING, 9), fact(2), 99)
        rows = [[(1,), (0,)], [(1,)], [(0,)], [(3,)]]
        self.assertEqual([recent_judge(FLASHING, tracked, row, 1) for row in rows], [U, N, U, I])
        self.assertEqual([recent_judge(FLASHING, tracked, row, 2) for row in rows], [S, I, N, I])

    def test_lists_and_tuples(self):
        for row in [[[1], [0]], ((1,), (0,)), ([1], (0,)), [(1,), [0]]]:
            self.assertEqual(recent_judge(FLASHING, once_tracked(FLASHING), row, 2), S)

    def test_row_stays_as_it_is(self):
        row = [[0], [1], [0]]
        recent_judge(FLASHING, once_tracked(FLASHING), row, 2)
        self.assertEqual(row, [[0], [1], [0]])

    def test_no_sensors(self):
        plant = walker((1,), (2,), (2,))
        tracked = track(unfold(plant, 9), fact(1), 99)
        self.assertEqual([recent_judge(plant, tracked, [()] * ticks, 2) for ticks in range(4)], [I, N, U, U])
        self.assertEqual([recent_judge(plant, tracked, [()] * 3, memory) for memory in (1, 2, 3, 4)], [U, U, N, N])

    def test_against_the_definition(self):
        chance = chance_from(100)
        for _ in range(60):
            plant = random_lamp_walker(chance, 4)
            machine, requirement = unfold(plant, 9), random_requirement(chance, 1, 4)
            if weight(requirement) > 4:
                continue
            tracked = track(machine, requirement, 99)
            for row in rows_over([(0,), (1,), (2,)], 3):
                for memory in (1, 2, 3, 4):
                    if memory > len(row):
                        expected = judge(plant, tracked, row)
                    else:
                        expected = recent_verdict(plant, machine, requirement, row, memory, 6)
                    self.assertEqual(recent_judge(plant, tracked, row, memory), expected, (plant, requirement, row))


class TestRecentDelay(unittest.TestCase):
    def test_integers(self):
        tracked = once_tracked(PASSING)
        self.assertEqual([recent_delay(PASSING, tracked, memory, 99) for memory in (1, 2, 3, 50)], [2, 0, 0, 0])

    def test_at_once(self):
        plant = walker((1, 2), (1,), (2,), sensors=[EXACT])
        self.assertEqual(recent_delay(plant, once_tracked(plant), 1, 99), 0)

    def test_none(self):
        tracked = once_tracked(FLASHING)
        for memory in (1, 2, 3, 50):
            self.assertIsNone(recent_delay(FLASHING, tracked, memory, 99))

    def test_none_with_little_memory_only(self):
        # 3 and 4 come by turns with 0; with two readings, 3 is told from 0, which is followed by 1 or 2 only.
        table = ("min", var(0), ("mul", ("sub", num(3), var(0)), num(9)))
        plant = walker((1, 2), (3,), (0,), (4,), (3,), sensors=[("s", ("max", num(0), table), 0, False)])
        tracked = once_tracked(plant)
        self.assertEqual([recent_delay(plant, tracked, memory, 99) for memory in (1, 2, 3)], [None, 0, 0])

    def test_age_beyond_the_memory(self):
        # Only the first three states after 1 look like 0: R lies up to 3 ticks before.
        sensors = [("s", ("max", ("sub", var(0), num(4)), num(0)), 0, False), ("t", ("min", num(1), var(0)), 0, True)]
        plant = walker((0, 1), (2,), (3,), (4,), (5,), (5,), sensors=sensors)
        tracked = once_tracked(plant)
        self.assertEqual([recent_delay(plant, tracked, memory, 99) for memory in (1, 2, 3, 4, 5)], [4, 4, 4, 4, 4])

    def test_long_way_on_which_nothing_is_seen(self):
        size = 30
        plant = walker((0, 1), *[(k + 1,) for k in range(1, size)], (), sensors=[BLIND])
        tracked = once_tracked(plant)
        for memory in (1, 2, size, size + 1, 50):
            self.assertEqual(recent_delay(plant, tracked, memory, 9999), size)
        for ticks, least in [(0, None), (size - 1, None), (size, 1), (100, 1)]:
            self.assertEqual(least_memory(plant, tracked, ticks, 9999), least)

    def test_two_states_at_different_ticks_count(self):
        tracked = once_tracked(PASSING)
        self.assertEqual(twins(PASSING, tracked, 99), [(0, 0), (1, 1), (2, 2), (3, 3)])
        self.assertEqual(recent_delay(PASSING, tracked, 1, 99), 2)

    def test_source(self):
        plant, _, requirements = compile_source(
            "part gate { var at : 0..3 from 0; move go when at < 3 do at := at + 1; move stay when at = 0 or at = 3; }"
            " sensor seen = min(at, 1) * min(3 - at, 1); require opened = at = 1;"
        )
        tracked = once_tracked(plant, requirements[0][1])
        self.assertIsNone(recent_delay(plant, tracked, 1, 99))
        self.assertIsNone(recent_delay(plant, tracked, 40, 99))
        self.assertIsNone(least_memory(plant, tracked, 3, 99))


class TestLeastMemory(unittest.TestCase):
    def test_integers(self):
        tracked = once_tracked(PASSING)
        self.assertEqual([least_memory(PASSING, tracked, ticks, 99) for ticks in (0, 1, 2, 100)], [2, 2, 1, 1])

    def test_more_ticks(self):
        # 0 and 1 look like 2 and 3, which have met R.
        plant = walker((1,), (2,), (3,), (4,), (5,), (5,), sensors=[("s", ("max", var(0), num(3)), 0, False)])
        tracked = once_tracked(plant, fact(2))
        # The runs 0 1 and 2 3 can be confused with two readings; two ticks after 2 all is clear.
        self.assertEqual([least_memory(plant, tracked, ticks, 99) for ticks in (0, 1, 2)], [3, 3, 1])

    def test_none(self):
        for ticks in (0, 1, 100):
            self.assertIsNone(least_memory(FLASHING, once_tracked(FLASHING), ticks, 99))

    def test_none_where_all_readings_do_not_help(self):
        # All readings up to 1 and 2 are the same, and they are remembered.
        late = ("late", ("max", var(0), num(2)), 0, False)
        plant = walker((1, 2), (3,), (4,), (3,), (4,), sensors=[late])
        tracked = once_tracked(plant)
        self.assertIsNone(least_memory(plant, tracked, 0, 99))
        self.assertEqual(least_memory(plant, tracked, 1, 99), 1)

    def test_great_memory(self):
        # A long way before R is met looks like the way behind it.
        size = 30
        steps = [(k + 1,) for k in range(2 * size)] + [(2 * size,)]
        plant = walker(*steps, sensors=[("end", ("max", var(0), num(2 * size - 1)), 0, False)])
        tracked = once_tracked(plant, fact(size))
        self.assertEqual(least_memory(plant, tracked, 0, 9999), size + 1)
        self.assertEqual(least_memory(plant, tracked, size, 9999), 1)
        for memory in (1, 2, size, size + 1):
            found = recent_delay(plant, tracked, memory, 9999)
            self.assertEqual(found, size if memory <= size else 0)


class TestBoth(unittest.TestCase):
    def functions(self, ticks_or_memory):
        return [(recent_delay, ticks_or_memory), (least_memory, ticks_or_memory)]

    def test_at_the_limit_and_one_beyond_it(self):
        chance = chance_from(101)
        plants = [random_lamp_walker(chance, 6) for _ in range(30)]
        for plant in [FLASHING, PASSING] + plants:
            tracked = once_tracked(plant)
            count = len(two_steps(plant, tracked)[1])
            for function, number in self.functions(1) + self.functions(40):
                function(plant, tracked, number, count)
                for most in (0, 1, count - 1):
                    if most < count:
                        with self.assertRaises(TooMany) as caught:
                            function(plant, tracked, number, most)
                        self.assertEqual(caught.exception.what, "twins")

    def test_pairs_that_share_a_reading_count_and_not_twins(self):
        # Four pairs of a state with itself, and both of 0 and 2.
        tracked = once_tracked(PASSING)
        for function, number in self.functions(1):
            function(PASSING, tracked, number, 6)
            with self.assertRaises(TooMany):
                function(PASSING, tracked, number, 5)

    def test_more_memory_and_more_ticks(self):
        chance = chance_from(102)
        for _ in range(150):
            plant = random_lamp_walker(chance, 5)
            tracked = once_tracked(plant, random_requirement(chance, 1, 4))
            delays = [recent_delay(plant, tracked, memory, 9999) for memory in range(1, 9)]
            for less, more in zip(delays, delays[1:]):
                self.assertTrue(less is None or (more is not None and more <= less))
            for ticks in range(5):
                least = least_memory(plant, tracked, ticks, 9999)
                for memory, found in enumerate(delays, start=1):
                    kept = found is not None and found <= ticks
                    self.assertEqual(kept, least is not None and least <= memory)

    def test_against_the_definition(self):
        chance = chance_from(103)
        broken = 0
        for _ in range(120):
            plant = random_lamp_walker(chance, 5)
            machine, requirement = unfold(plant, 9), fact(chance.randrange(4))
            tracked = once_tracked(plant, requirement)
            for memory in (1, 2, 3):
                found = recent_delay(plant, tracked, memory, 9999)
                for ticks in (0, 1, 2, 3):
                    kept = found is not None and found <= ticks
                    # Where it is not kept, six ticks are often enough to show it, and twelve always here.
                    longest = next((number for number in (6, 9, 12)
                                    if forgotten(plant, machine, requirement, memory, ticks, number)), None)
                    self.assertEqual(kept, longest is None, (plant, requirement, memory, ticks))
                    broken += not kept
                    if kept:
                        break
        self.assertGreater(broken, 50)


if __name__ == "__main__":
    unittest.main()
