"""Verdicts: points [33], [40] and [41], and the interface of wardens/judging.py."""

import unittest

from definitions import rows_over, verdict_by_runs
from samples import chance_from, fact, num, random_requirement, random_walker, var, walker
from wardens.judging import judge, set_after, verdict_of
from wardens.memory import weight
from wardens.names import compile_source
from wardens.readings import possible_readings
from wardens.tracking import track
from wardens.unfolding import unfold

T, F = True, False
ROUGH = ("rough", var(0), 1, True)
BLIND = ("blind", num(0), 0, False)


def tracked_of(plant, requirement):
    return track(unfold(plant, 99), requirement, 400)


class TestVerdictOf(unittest.TestCase):
    def setUp(self):
        self.tracked = ((), (), (), (T, F, T, F, F))

    def test_each_verdict(self):
        for members, verdict in [
            ([0], "sure"), ([0, 2], "sure"), ([1], "never"), ([1, 3, 4], "never"), ([0, 1], "unknown"),
            ([1, 2, 3], "unknown"), ([0, 1, 2, 3, 4], "unknown"), ([], "impossible"), (None, "impossible"),
        ]:
            self.assertEqual(verdict_of(self.tracked, members), verdict)

    def test_members_stay_as_they_are(self):
        members = [0, 1]
        verdict_of(self.tracked, members)
        self.assertEqual(members, [0, 1])


class TestSetAfter(unittest.TestCase):
    def setUp(self):
        # Tracked: 0 is state 0, 1 is 1, 2 is 2, 3 is 3, 4 is 4, each with one memory.
        self.plant = walker((2, 3), (3, 0), (4, 1), (4, 2), (), first=(0, 1), sensors=[ROUGH])
        self.tracked = tracked_of(self.plant, fact(3))

    def after(self, members, *reading):
        return set_after(self.plant, self.tracked, members, reading)

    def test_numbers_of_the_tracked_states(self):
        self.assertEqual([mark[0] for mark in self.tracked[0]], [(0,), (1,), (2,), (3,), (4,)])

    def test_first_reading(self):
        self.assertEqual(self.after(None, 0), [0, 1])
        self.assertEqual(self.after(None, -1), [0])
        self.assertEqual(self.after(None, 2), [1])
        self.assertEqual(self.after(None, None), [0, 1])
        self.assertEqual(self.after(None, 3), [])

    def test_further_readings(self):
        self.assertEqual(self.after([0, 1], 2), [2, 3])
        self.assertEqual(self.after([0, 1], 4), [3])
        self.assertEqual(self.after([0, 1], 1), [0, 2])
        self.assertEqual(self.after([0, 1], None), [0, 2, 3])
        self.assertEqual(self.after([0], None), [2, 3])
        self.assertEqual(self.after([0, 1], 9), [])

    def test_ascending_each_once(self):
        self.assertEqual(self.after([2, 3], None), [1, 2, 4])
        self.assertEqual(self.after([0, 2, 3], 3), [2, 3, 4])
        self.assertEqual(self.after([2], None), [1, 4])

    def test_empty_set_and_dead_ends(self):
        self.assertEqual(self.after([], 0), [])
        self.assertEqual(self.after([], None), [])
        self.assertEqual(self.after([4], None), [])

    def test_readings_of_another_length(self):
        for reading in [(), (0, 0), (None, None)]:
            self.assertEqual(set_after(self.plant, self.tracked, None, reading), [])
            self.assertEqual(set_after(self.plant, self.tracked, [0, 1], list(reading)), [])

    def test_reading_as_a_list(self):
        self.assertEqual(set_after(self.plant, self.tracked, None, [2]), [1])

    def test_members_stay_and_the_result_is_new(self):
        members, reading = [0, 1], [None]
        found = set_after(self.plant, self.tracked, members, reading)
        found.clear()
        self.assertEqual((members, reading), ([0, 1], [None]))
        self.assertEqual(set_after(self.plant, self.tracked, members, reading), [0, 2, 3])
        starts = set_after(self.plant, self.tracked, None, [None])
        starts.clear()
        self.assertEqual(set_after(self.plant, self.tracked, None, [None]), [0, 1])

    def test_two_memories_of_one_state(self):
        plant = walker((0, 1), (0,), sensors=[BLIND])
        tracked = tracked_of(plant, ("once", fact(1)))
        self.assertEqual([mark[0] for mark in tracked[0]], [(0,), (1,), (0,)])
        self.assertEqual(set_after(plant, tracked, [0, 1], (0,)), [0, 1, 2])
        self.assertEqual(set_after(plant, tracked, [0, 1, 2], (0,)), [0, 1, 2])
        self.assertEqual(set_after(plant, tracked, [1], (0,)), [2])


class TestJudge(unittest.TestCase):
    def setUp(self):
        self.plant = walker((0, 1), (1, 2), (3,), (), sensors=[ROUGH])
        self.tracked = tracked_of(self.plant, ("once", fact(2)))

    def judge(self, *items):
        return judge(self.plant, self.tracked, [(item,) for item in items])

    def test_each_verdict(self):
        self.assertEqual(self.judge(0), "never")
        self.assertEqual(self.judge(0, 1, 0), "never")
        self.assertEqual(self.judge(0, 1, 1), "unknown")
        self.assertEqual(self.judge(0, None, None), "unknown")
        self.assertEqual(self.judge(0, 1, 3), "sure")
        self.assertEqual(self.judge(None, None, None, 4), "sure")
        self.assertEqual(self.judge(2), "impossible")

    def test_what_comes_later_can_settle_what_came_before(self):
        self.assertEqual(self.judge(0, 1, 1, 1), "unknown")
        self.assertEqual(self.judge(0, 1, 1, 3), "sure")
        self.assertEqual(self.judge(0, 1, 2, 0), "never")

    def test_verdict_speaks_of_the_last_tick_only(self):
        tracked = tracked_of(self.plant, fact(2))
        rows = [[(0,)], [(0,), (1,)], [(0,), (1,), (3,)], [(0,), (1,), (3,), (4,)]]
        self.assertEqual([judge(self.plant, tracked, row) for row in rows], ["never", "never", "sure", "never"])

    def test_empty_row(self):
        self.assertEqual(judge(self.plant, self.tracked, []), "impossible")
        self.assertEqual(judge(self.plant, self.tracked, ()), "impossible")

    def test_readings_that_no_run_fits(self):
        self.assertEqual(self.judge(0, 9), "impossible")
        self.assertEqual(self.judge(9, 0), "impossible")
        self.assertEqual(self.judge(0, 1, 3, 4, None), "impossible")

    def test_readings_of_another_length(self):
        for row in [[()], [(0, 0)], [(0,), ()], [(0,), (0, 0)], [(), (0,)]]:
            self.assertEqual(judge(self.plant, self.tracked, row), "impossible")

    def test_lists_and_tuples(self):
        for row in [((0,), (1,), (3,)), [[0], [1], [3]], ([0], [1], [3])]:
            self.assertEqual(judge(self.plant, self.tracked, row), "sure")

    def test_no_sensor(self):
        plant = walker((1,), (2,), ())
        tracked = tracked_of(plant, fact(1))
        verdicts = [judge(plant, tracked, [()] * ticks) for ticks in range(6)]
        self.assertEqual(verdicts, ["impossible", "never", "sure", "never", "impossible", "impossible"])
        self.assertEqual(judge(plant, tracked, [(1,)]), "impossible")

    def test_source(self):
        plant, _, requirements = compile_source(
            "part tank { var level : 0..3 from 0..1; move fill do level := level + 1; move drain do level := 0; }"
            " sensor gauge = level +- 1 lossy; sensor alarm = level - level + 1;"
            " require full = once level = 3; require calm = always level < 2;"
        )
        tracked = [tracked_of(plant, requirement) for _, requirement in requirements]
        for row, verdicts in [
            ([(0, 1)], ["never", "sure"]), ([(0, 1), (3, 1)], ["never", "never"]),
            ([(None, 1), (2, 1)], ["never", "unknown"]), ([(2, 1), (3, 1), (4, 1)], ["sure", "never"]),
            ([(2, 1), (3, 1), (None, 1)], ["unknown", "never"]), ([(0, 0)], ["impossible"] * 2),
        ]:
            self.assertEqual([judge(plant, one, row) for one in tracked], verdicts, row)

    def test_row_stays_as_it_is(self):
        row = [[0], [1]]
        judge(self.plant, self.tracked, row)
        self.assertEqual(row, [[0], [1]])

    def test_against_the_definition(self):
        chance = chance_from(8)
        for _ in range(40):
            sensor = ("s", var(0), chance.randint(0, 1), chance.random() < 0.4)
            plant = random_walker(chance, 4, sensors=[sensor])
            machine = unfold(plant, 4)
            requirement = random_requirement(chance, 2, 4)
            if weight(requirement) > 8:
                continue
            tracked = track(machine, requirement, 100)
            readings = possible_readings(plant, machine, 20)
            for row in rows_over(readings, 3):
                expected = verdict_by_runs(plant, machine, requirement, row)
                self.assertEqual(judge(plant, tracked, row), expected, (plant, requirement, row))


if __name__ == "__main__":
    unittest.main()
