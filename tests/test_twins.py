"""Twins: points [51] and [52], and the interface of wardens/twins.py."""

import unittest

from definitions import shares, twin_runs, walk_of
from samples import add, chance_from, fact, num, random_requirement, random_walker, rows, var, walker
from wardens.errors import TooMany
from wardens.memory import weight
from wardens.names import compile_source
from wardens.readings import can_show
from wardens.tracking import track
from wardens.twins import share, shared_reading, twins
from wardens.unfolding import unfold

T, F = True, False
EXACT = ("exact", var(0), 0, F)
BLIND = ("blind", num(0), 0, F)


def plant_with(*sensors):
    """A plant with two variables, of which only the sensors matter."""
    return (rows((-50, 50), (-50, 50)), (), sensors)


def sensor(error, lossy, v=0):
    return ("s", var(v), error, lossy)


def tracked_of(plant, requirement):
    return track(unfold(plant, 99), requirement, 400)


def pairs_by_ticks(plant, tracked, ticks):
    """Point [52]: the pairs in which two runs can be at one of the first ticks."""
    marks, starts, steps, _ = tracked
    pairs = {(a, b) for a in starts for b in starts if shares(plant, marks[a][0], marks[b][0])}
    found = set(pairs)
    for _ in range(ticks - 1):
        pairs = {(a, b) for one, other in pairs for a in steps[one] for b in steps[other]
                 if shares(plant, marks[a][0], marks[b][0])}
        found |= pairs
    return found


class TestShare(unittest.TestCase):
    def check(self, plant, values, other, reading):
        """Both ways round; no reading stands for values that share none."""
        for one, two in [(values, other), (other, values)]:
            self.assertIs(share(plant, one, two), reading is not None)
            self.assertIs(shares(plant, one, two), reading is not None)
            if reading is not None:
                self.assertEqual(shared_reading(plant, one, two), reading)
                self.assertIs(type(shared_reading(plant, one, two)), tuple)
                self.assertTrue(can_show(plant, one, reading) and can_show(plant, two, reading))

    def test_without_errors(self):
        plant = plant_with(sensor(0, F))
        self.check(plant, (3, 0), (3, 9), (3,))
        self.check(plant, (3, 0), (4, 0), None)
        self.check(plant, (-3, 0), (3, 0), None)

    def test_twice_the_error_and_one_more(self):
        for error in (1, 2, 7):
            plant = plant_with(sensor(error, F))
            self.check(plant, (-5, 0), (-5 + 2 * error, 0), (-5 + error,))
            self.check(plant, (-5, 0), (-5 + 2 * error - 1, 0), (-6 + error,))
            self.check(plant, (-5, 0), (-4 + 2 * error, 0), None)
            self.check(plant, (5, 0), (5, 0), (5 - error,))

    def test_lossy(self):
        plant = plant_with(sensor(1, T))
        self.check(plant, (0, 0), (2, 0), (1,))
        self.check(plant, (0, 0), (3, 0), (None,))
        self.check(plant, (0, 0), (50, 0), (None,))
        self.check(plant, (4, 0), (4, 0), (3,))
        self.check(plant_with(sensor(0, T)), (4, 0), (4, 0), (4,))

    def test_several_sensors(self):
        plant = plant_with(sensor(1, F), sensor(0, T, v=1), sensor(0, F, v=1))
        self.check(plant, (0, 5), (1, 5), (0, 5, 5))
        self.check(plant, (0, 5), (1, 6), None)
        self.check(plant, (0, 5), (3, 5), None)
        plant = plant_with(sensor(1, F), sensor(0, T, v=1))
        self.check(plant, (0, 5), (2, 6), (1, None))
        self.check(plant, (0, 5), (3, 6), None)

    def test_terms(self):
        plant = plant_with(("s", ("mul", var(0), var(0)), 0, F), ("t", add(var(1), 10), 2, F))
        self.check(plant, (3, 0), (-3, 4), (9, 12))
        self.check(plant, (3, 0), (-3, 5), None)

    def test_no_sensors(self):
        self.check(plant_with(), (0, 0), (50, -50), ())
        self.check(((), (), ()), (), (), ())

    def test_random(self):
        chance = chance_from(60)
        for _ in range(300):
            plant = plant_with(*[sensor(chance.randint(0, 2), chance.random() < 0.4, v=chance.randint(0, 1))
                                 for _ in range(chance.randint(1, 3))])
            values, other = [tuple(chance.randint(0, 4) for _ in range(2)) for _ in range(2)]
            self.assertEqual(share(plant, values, other), shares(plant, values, other))
            if share(plant, values, other):
                reading = shared_reading(plant, values, other)
                self.assertTrue(can_show(plant, values, reading) and can_show(plant, other, reading))


class TestTwins(unittest.TestCase):
    def test_ascending_order(self):
        plant = walker((1, 2), (0,), (1,), sensors=[BLIND])
        tracked = tracked_of(plant, fact(0))
        self.assertEqual(twins(plant, tracked, 9), [
            (0, 0), (0, 1), (0, 2), (1, 0), (1, 1), (1, 2), (2, 0), (2, 1), (2, 2),
        ])

    def test_pairs_that_are_found_out_of_order(self):
        plant = walker((3, 2), (), (1,), (), sensors=[BLIND])
        tracked = tracked_of(plant, fact(0))
        self.assertEqual([mark[0] for mark in tracked[0]], [(0,), (3,), (2,), (1,)])
        self.assertEqual(twins(plant, tracked, 9), [(0, 0), (1, 1), (1, 2), (2, 1), (2, 2), (3, 3)])

    def test_several_starts(self):
        plant = walker((), (), (), first=(0, 2), sensors=[("near", ("min", var(0), num(1)), 0, F)])
        self.assertEqual(twins(plant, tracked_of(plant, fact(0)), 9), [(0, 0), (1, 1), (1, 2), (2, 1), (2, 2)])

    def test_pairs_at_different_ticks_only_are_none(self):
        # A run is in 0 or 1 at each tick, but two runs are in the same one.
        plant = walker((1,), (0,), sensors=[BLIND])
        self.assertEqual(twins(plant, tracked_of(plant, fact(0)), 9), [(0, 0), (1, 1)])

    def test_values_that_share_a_reading_only_later(self):
        # 1 and 2 share no reading, so no two runs come to 3 and 4 with the same ones.
        sensors = [("lamp", ("max", num(0), add(("neg", var(0)), 3)), 0, F)]
        plant = walker((1, 2), (3,), (4,), (), (), sensors=sensors)
        self.assertEqual(twins(plant, tracked_of(plant, fact(0)), 99), [(0, 0), (1, 1), (2, 2), (3, 3), (4, 4)])

    def test_memories(self):
        plant = walker((0, 1), (0,), sensors=[BLIND])
        tracked = tracked_of(plant, ("once", fact(1)))
        self.assertEqual(twins(plant, tracked, 9), [
            (0, 0), (0, 1), (0, 2), (1, 0), (1, 1), (1, 2), (2, 0), (2, 1), (2, 2),
        ])

    def test_dead_ends(self):
        plant = walker((1, 2), (), (2,), sensors=[BLIND])
        self.assertEqual(twins(plant, tracked_of(plant, fact(0)), 9), [(0, 0), (1, 1), (1, 2), (2, 1), (2, 2)])

    def test_no_sensors(self):
        plant = walker((1, 2), (1,), (2,))
        self.assertEqual(twins(plant, tracked_of(plant, fact(0)), 9), [(0, 0), (1, 1), (1, 2), (2, 1), (2, 2)])

    def test_at_the_limit_and_one_beyond_it(self):
        for plant, count in [
            (walker((1, 2), (0,), (1,), sensors=[BLIND]), 9), (walker((0,), sensors=[EXACT]), 1),
            (walker((), (), first=(0, 1), sensors=[BLIND]), 4), (walker((1,), (0,), sensors=[BLIND]), 2),
        ]:
            tracked = tracked_of(plant, fact(0))
            self.assertEqual(len(twins(plant, tracked, count)), count)
            for most in (0, count // 2, count - 1):
                with self.assertRaises(TooMany) as caught:
                    twins(plant, tracked, most)
                self.assertEqual(caught.exception.what, "twins")

    def test_many(self):
        plant = walker(*[tuple(range(40))] * 40, first=(0, 39), sensors=[BLIND])
        tracked = tracked_of(plant, fact(0))
        self.assertEqual(twins(plant, tracked, 1600), [(a, b) for a in range(40) for b in range(40)])

    def test_result_is_new(self):
        plant = walker((0,), sensors=[BLIND])
        tracked = tracked_of(plant, fact(0))
        twins(plant, tracked, 9).clear()
        self.assertEqual(twins(plant, tracked, 9), [(0, 0)])

    def test_source(self):
        plant, _, requirements = compile_source(
            "part lamp { var on : {off, lit} from off; var ok : 0..1 from 1; move flip when ok = 1 do on := lit;"
            " move burn do ok := 0; } sensor light = on * ok lossy; require broken = once ok = 0;"
        )
        tracked = tracked_of(plant, requirements[0][1])
        self.assertEqual([values for values, _ in tracked[0]], [(0, 1), (1, 1), (0, 0), (1, 0)])
        self.assertEqual(twins(plant, tracked, 10), [(0, 0)] + [(a, b) for a in (1, 2, 3) for b in (1, 2, 3)])

    def test_against_the_definition(self):
        chance = chance_from(61)
        for _ in range(60):
            plant = random_walker(chance, 4, sensors=[("s", var(0), chance.randint(0, 1), chance.random() < 0.2)])
            machine = unfold(plant, 4)
            requirement = random_requirement(chance, 1, 4)
            if weight(requirement) > 8:
                continue
            tracked = track(machine, requirement, 100)
            found = twins(plant, tracked, 9999)
            self.assertEqual(found, sorted(pairs_by_ticks(plant, tracked, len(tracked[0]) ** 2)))
            ends = [[walk_of(machine, tracked, requirement, run)[-1] for run in runs]
                    for ticks in (1, 2, 3, 4) for runs in twin_runs(plant, ticks)]
            self.assertEqual({tuple(pair) for pair in ends}, pairs_by_ticks(plant, tracked, 4))


if __name__ == "__main__":
    unittest.main()
