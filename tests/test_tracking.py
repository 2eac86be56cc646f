"""Tracked states and runs: points [21], [36], [38] and [39], and the interface of wardens/tracking.py."""

import itertools
import unittest

from definitions import history_of, holds_after, memory_after, runs_of
from samples import at, chance_from, fact, machine_of, random_requirement, random_walker, walker
from wardens.errors import NotARun, TooMany
from wardens.memory import weight
from wardens.names import compile_source
from wardens.tracking import evaluate, shortest_run, track
from wardens.unfolding import is_run, unfold

T, F = True, False
ONCE = ("once", fact(1))


def met_at(size, *numbers):
    return tuple(number in numbers for number in range(size))


class TestTrack(unittest.TestCase):
    def test_two_memories_for_one_state(self):
        machine = machine_of(((1, 0), (0,)))
        self.assertEqual(track(machine, ONCE, 9), (
            (((0,), (F, F)), ((1,), (T, T)), ((0,), (T, F))), (0,), ((1, 0), (2,), (1, 2)), (F, T, T),
        ))

    def test_several_starts(self):
        machine = machine_of(((2,), (2, 0), (1,)), starts=(0, 1))
        self.assertEqual(track(machine, ("before", fact(1)), 9), (
            (((0,), (F, F)), ((1,), (F, T)), ((2,), (F, F)), ((2,), (T, F)), ((0,), (T, F))), (0, 1),
            ((2,), (3, 4), (1,), (1,), (2,)), (F, F, F, T, T),
        ))

    def test_steps_in_the_order_of_the_next_states(self):
        machine = machine_of(((1, 2), (2, 0, 1), ()))
        marks, _, steps, _ = track(machine, ("fact", at(2)), 9)
        self.assertEqual(steps, machine[2])
        self.assertEqual([values for values, _ in marks], list(machine[0]))

    def test_dead_end(self):
        self.assertEqual(track(machine_of(((),)), fact(0), 1), ((((0,), (T,)),), (0,), ((),), (T,)))

    def test_memory_that_counts(self):
        machine = machine_of(((1,), (2,), (2,)))
        marks, starts, steps, meets = track(machine, ("oncein", 2, fact(0)), 9)
        self.assertEqual(marks, (((0,), (0, T)), ((1,), (1, F)), ((2,), (2, F)), ((2,), (3, F))))
        self.assertEqual((starts, steps, meets), ((0,), ((1,), (2,), (3,), (3,)), (T, T, T, F)))

    def test_at_the_limit_and_one_beyond_it(self):
        machine = machine_of(((1, 0), (0,)))
        self.assertEqual(len(track(machine, ONCE, 3)[0]), 3)
        for most in (0, 1, 2):
            with self.assertRaises(TooMany) as caught:
                track(machine, ONCE, most)
            self.assertEqual(caught.exception.what, "pairs")

    def test_limit_with_starts(self):
        machine = machine_of(((), (), ()), starts=(0, 1, 2))
        self.assertEqual(track(machine, fact(1), 3)[3], (F, T, F))
        self.assertRaises(TooMany, track, machine, fact(1), 2)

    def test_limit_at_the_last_step(self):
        machine = machine_of(((1,), (2,), ()))
        self.assertEqual(len(track(machine, fact(1), 3)[0]), 3)
        self.assertRaises(TooMany, track, machine, fact(1), 2)

    def test_many_memories_end_at_the_limit(self):
        machine = machine_of(((0, 1), (0, 1)))
        requirement = fact(1)
        for _ in range(12):
            requirement = ("before", requirement)
        self.assertRaises(TooMany, track, machine, requirement, 400)

    def test_facts_about_what_comes_next(self):
        machine = machine_of(((1,), (2,), ()))
        self.assertEqual(track(machine, ("once", ("fact", ("not", ("next", at(2))))), 9)[3], (T, T, T))
        self.assertEqual(track(machine, ("fact", ("next", at(2))), 9)[3], (F, T, F))

    def test_against_the_definition(self):
        chance = chance_from(5)
        for _ in range(150):
            machine = unfold(random_walker(chance, 4), 4)
            requirement = random_requirement(chance, 3, 4)
            if weight(requirement) > 40:
                continue
            marks, starts, steps, meets = track(machine, requirement, 200)
            self.check(machine, requirement, marks, starts, steps, meets)
            self.assertLessEqual(len(marks), len(machine[0]) * weight(requirement))
            self.assertRaises(TooMany, track, machine, requirement, len(marks) - 1)

    def check(self, machine, requirement, marks, starts, steps, meets):
        """Compares tracked states with the memories of whole runs, one run for each of them."""
        states, first, following = machine
        runs = [[number] for number in first]
        found = [(run[-1], self.memory(machine, requirement, run)) for run in runs]
        self.assertEqual(starts, tuple(range(len(first))))
        for at_run, run in enumerate(runs):
            row = []
            for later in following[run[-1]]:
                mark = (later, self.memory(machine, requirement, run + [later]))
                if mark not in found:
                    found.append(mark)
                    runs.append(run + [later])
                row.append(found.index(mark))
            self.assertEqual(steps[at_run], tuple(row))
            self.assertIs(meets[at_run], holds_after(requirement, history_of(machine, requirement, run)))
        self.assertEqual(marks, tuple((states[number], memory) for number, memory in found))
        self.assertEqual((len(steps), len(meets)), (len(marks), len(marks)))

    def memory(self, machine, requirement, numbers):
        return memory_after(requirement, history_of(machine, requirement, numbers))

    def test_kinds(self):
        tracked = track(machine_of(((1, 0), (0,))), ONCE, 9)
        self.assertIs(type(tracked), tuple)
        for made in tracked:
            self.assertIs(type(made), tuple)
        self.assertTrue(all(type(row) is tuple for row in tracked[2]))
        self.assertTrue(all(type(truth) is bool for truth in tracked[3]))


class TestEvaluate(unittest.TestCase):
    def setUp(self):
        self.plant = walker((1, 2), (0, 2), (2, 0), (3,), first=(0, 1))
        self.machine = unfold(self.plant, 9)

    def evaluate(self, requirement, *numbers):
        return evaluate(self.plant, self.machine, requirement, [(number,) for number in numbers])

    def test_each_tick(self):
        self.assertEqual(self.evaluate(fact(1), 0, 1, 0, 2), [F, T, F, F])
        self.assertEqual(self.evaluate(ONCE, 0, 2, 0, 1, 0), [F, F, F, T, T])
        self.assertEqual(self.evaluate(("before", fact(1)), 1, 2, 2), [F, T, F])
        self.assertEqual(self.evaluate(("oncein", 1, fact(1)), 1, 2, 2, 0, 1), [T, T, F, F, T])
        self.assertEqual(self.evaluate(("since", ("not", fact(1)), fact(0)), 1, 0, 2, 2, 0, 1, 2), [F, T, T, T, T, F, F])

    def test_one_tick(self):
        self.assertEqual(self.evaluate(fact(1), 1), [T])
        self.assertEqual(self.evaluate(("before", fact(1)), 1), [F])

    def test_facts_about_what_comes_next(self):
        self.assertEqual(self.evaluate(("fact", ("next", at(1))), 0, 2, 0, 1), [T, F, T, F])

    def test_lists_and_tuples(self):
        for run in [[[0], [1], [2]], ([0], [1], [2]), ((0,), (1,), (2,)), [(0,), [1], (2,)]]:
            self.assertEqual(evaluate(self.plant, self.machine, ONCE, run), [F, T, T])

    def test_no_run(self):
        for run in [[], (), [(2,)], [(0,), (0,)], [(0,), (1,), (1,)], [(0, 0)], [(0,), ()], [[3]], [[4]]]:
            self.assertRaises(NotARun, evaluate, self.plant, self.machine, ONCE, run)

    def test_source(self):
        plant, _, requirements = compile_source(
            "part p { var x : 0..3 from 0; move up do x := x + 1; move stay; }"
            " require low = always x < 2; require pair = x = 2 since x = 1; require two = once[1] x = 1 and before x < 2;"
        )
        run = [(0,), (1,), (1,), (2,), (2,), (3,)]
        machine = unfold(plant, 9)
        self.assertEqual([evaluate(plant, machine, requirement, run) for _, requirement in requirements], [
            [T, T, T, F, F, F], [F, T, T, T, T, F], [F, T, T, T, F, F],
        ])

    def test_against_the_definition(self):
        chance = chance_from(6)
        for _ in range(100):
            plant = random_walker(chance, 4)
            machine = unfold(plant, 4)
            requirement = random_requirement(chance, 3, 4)
            for run in itertools.islice(runs_of(plant, 4), 10):
                numbers = [machine[0].index(values) for values in run]
                history = history_of(machine, requirement, numbers)
                expected = [holds_after(requirement, history[:ticks]) for ticks in range(1, 5)]
                self.assertEqual(evaluate(plant, machine, requirement, run), expected)

    def test_run_stays_and_the_result_is_new(self):
        run = [[0], [1]]
        evaluate(self.plant, self.machine, ONCE, run).clear()
        self.assertEqual(run, [[0], [1]])
        self.assertEqual(evaluate(self.plant, self.machine, ONCE, run), [F, T])


class TestShortestRun(unittest.TestCase):
    def tracked(self, steps, starts, *numbers):
        """A tracked machine with the values (0,), (1,) and so on; the requirement holds in those numbers."""
        marks = tuple(((number,), (number in numbers,)) for number in range(len(steps)))
        return (marks, starts, steps, met_at(len(steps), *numbers))

    def run_of(self, *numbers):
        return [(number,) for number in numbers]

    def test_wanted_true_and_false(self):
        tracked = self.tracked(((1,), (2,), (3,), ()), (0,), 2)
        self.assertEqual(shortest_run(tracked, True), self.run_of(0, 1, 2))
        self.assertEqual(shortest_run(tracked, False), self.run_of(0))
        tracked = self.tracked(((1,), (2,), (3,), ()), (0,), 0, 1, 2)
        self.assertEqual(shortest_run(tracked, True), self.run_of(0))
        self.assertEqual(shortest_run(tracked, False), self.run_of(0, 1, 2, 3))

    def test_none(self):
        steps = ((1,), (0, 1))
        self.assertIsNone(shortest_run(self.tracked(steps, (0,)), True))
        self.assertIsNone(shortest_run(self.tracked(steps, (0,), 0, 1), False))

    def test_first_of_the_starts_with_a_shortest_run(self):
        steps = ((3,), (4,), (4, 5), (1,), (), ())
        self.assertEqual(shortest_run(self.tracked(steps, (0, 1, 2), 4), True), self.run_of(1, 4))
        self.assertEqual(shortest_run(self.tracked(steps, (0, 1, 2), 5), True), self.run_of(2, 5))
        self.assertEqual(shortest_run(self.tracked(steps, (0, 1, 2), 1, 2), True), self.run_of(1))
        self.assertEqual(shortest_run(self.tracked(steps, (0, 2, 1), 1, 2), True), self.run_of(2))

    def test_first_of_the_steps_with_which_a_shortest_run_goes_on(self):
        steps = ((3, 2, 1), (5, 4), (6, 5, 4), (0,), (), (), (4,))
        self.assertEqual(shortest_run(self.tracked(steps, (0,), 4, 5), True), self.run_of(0, 2, 5))
        self.assertEqual(shortest_run(self.tracked(steps, (0,), 4), True), self.run_of(0, 2, 4))
        self.assertEqual(shortest_run(self.tracked(steps, (0,), 1, 2), True), self.run_of(0, 2))
        self.assertEqual(shortest_run(self.tracked(steps, (0,), 6), True), self.run_of(0, 2, 6))

    def test_values_come_from_the_states(self):
        plant = walker((), (2, 3), (1,), (2,), first=(1, 1))
        tracked = track(unfold(plant, 9), ("before", ("before", fact(3))), 99)
        self.assertEqual(shortest_run(tracked, True), [(1,), (3,), (2,), (1,)])
        self.assertEqual(shortest_run(tracked, False), [(1,)])

    def test_against_the_definition(self):
        chance = chance_from(7)
        for _ in range(150):
            plant = random_walker(chance, 4)
            machine = unfold(plant, 4)
            requirement = random_requirement(chance, 2, 4)
            if weight(requirement) <= 8:
                tracked = track(machine, requirement, 100)
                for wanted in (T, F):
                    self.check(plant, machine, requirement, tracked, wanted)

    def check(self, plant, machine, requirement, tracked, wanted):
        run = shortest_run(tracked, wanted)
        ticks = 5 if run is None else min(len(run), 5)
        found = []
        for length in range(1, ticks + 1):
            for candidate in runs_of(plant, length):
                numbers = [machine[0].index(values) for values in candidate]
                if holds_after(requirement, history_of(machine, requirement, numbers)) == wanted:
                    found.append(candidate)
        if run is None or len(run) > 5:
            self.assertEqual(found, [])
        else:
            self.assertEqual(run, found[0])
            self.assertTrue(is_run(plant, run))

    def test_result_is_new(self):
        tracked = self.tracked(((1,), ()), (0,), 1)
        shortest_run(tracked, True).clear()
        self.assertEqual(shortest_run(tracked, True), self.run_of(0, 1))


if __name__ == "__main__":
    unittest.main()
