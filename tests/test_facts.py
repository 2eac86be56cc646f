"""Facts: point [35], and the interface of wardens/facts.py."""

import unittest

from samples import at, chance_from, less, machine_of, random_fact, random_walker, same
from wardens.facts import label
from wardens.names import compile_source
from wardens.unfolding import unfold

T, F = True, False

# 0 forks to 1 and 2, 1 to 3 and 4; 3 is a dead end; 2 goes on to 5, which leads back to 2, to 6 and to itself;
# 6 leads to 7, a dead end.
STEPS = ((1, 2), (3, 4), (5,), (), (3,), (5, 2, 6), (7,), ())
MACHINE = machine_of(STEPS)


def not_(fact):
    return ("not", fact)


def holds_by_definition(machine, fact, state):
    """Point [35], word for word; without a number of ticks, as many as there are states are enough."""
    states, _, steps = machine
    word = fact[0]
    if word == "holds":
        return states[state][0] < fact[1][2][1]
    if word == "not":
        return not holds_by_definition(machine, fact[1], state)
    if word in ("and", "or"):
        both = [holds_by_definition(machine, part, state) for part in fact[1:]]
        return all(both) if word == "and" else any(both)
    if word == "next":
        return any(holds_by_definition(machine, fact[1], later) for later in steps[state])
    if word == "can":
        return holds_by_definition(machine, ("canin", len(states), fact[1]), state)
    if word == "must":
        return holds_by_definition(machine, ("mustin", len(states), fact[1]), state)
    if word == "canin":
        reached = {state}
        for _ in range(fact[1]):
            reached |= {later for number in reached for later in steps[number]}
        return any(holds_by_definition(machine, fact[2], number) for number in reached)
    truths = [holds_by_definition(machine, fact[2], number) for number in range(len(states))]
    for _ in range(fact[1]):
        truths = [truths[n] or (len(steps[n]) > 0 and all(truths[later] for later in steps[n]))
                  for n in range(len(states))]
    return truths[state]


class TestLabel(unittest.TestCase):
    def check(self, fact, *numbers):
        self.assertEqual(label(MACHINE, fact), [number in numbers for number in range(8)])

    def test_holds(self):
        self.check(at(3), 3)
        self.check(("holds", less(0, 2)), 0, 1)
        self.check(("holds", ("not", ("or", same(0, 0), ("true",)))))

    def test_not_and_or(self):
        self.check(not_(at(3)), 0, 1, 2, 4, 5, 6, 7)
        self.check(("and", ("holds", less(0, 5)), not_(at(2))), 0, 1, 3, 4)
        self.check(("and", at(3), at(4)))
        self.check(("or", at(3), at(4)), 3, 4)
        self.check(("or", at(3), not_(at(3))), 0, 1, 2, 3, 4, 5, 6, 7)

    def test_next(self):
        self.check(("next", at(3)), 1, 4)
        self.check(("next", at(5)), 2, 5)
        self.check(("next", at(0)))
        self.check(("next", not_(at(5))), 0, 1, 4, 5, 6)
        self.check(not_(("next", not_(at(5)))), 2, 3, 7)

    def test_can(self):
        self.check(("can", at(3)), 0, 1, 3, 4)
        self.check(("can", at(2)), 0, 2, 5)
        self.check(("can", at(7)), 0, 2, 5, 6, 7)
        self.check(("can", at(0)), 0)
        self.check(("can", at(99)))

    def test_can_within_ticks(self):
        self.check(("canin", 0, at(3)), 3)
        self.check(("canin", 1, at(3)), 1, 3, 4)
        self.check(("canin", 2, at(3)), 0, 1, 3, 4)
        self.check(("canin", 1, at(7)), 6, 7)
        self.check(("canin", 2, at(7)), 5, 6, 7)
        self.check(("canin", 3, at(7)), 2, 5, 6, 7)
        self.check(("canin", 4, at(7)), 0, 2, 5, 6, 7)
        self.check(("canin", 1000, at(7)), 0, 2, 5, 6, 7)
        self.check(("canin", 1000, at(99)))

    def test_must(self):
        self.check(("must", at(3)), 1, 3, 4)
        self.check(("must", at(7)), 6, 7)
        self.check(("must", at(5)), 2, 5)
        self.check(("must", ("or", at(3), at(5))), 0, 1, 2, 3, 4, 5)
        self.check(("must", at(99)))

    def test_must_fails_along_a_loop_that_avoids_it(self):
        machine = machine_of(((1,), (1, 2), (2,)))
        self.assertEqual(label(machine, ("must", at(2))), [F, F, T])
        machine = machine_of(((1,), (0, 2), ()))
        self.assertEqual(label(machine, ("must", at(2))), [F, F, T])
        machine = machine_of(((1,), (2,), (0,)))
        self.assertEqual(label(machine, ("must", at(2))), [T, T, T])

    def test_must_fails_at_a_dead_end(self):
        machine = machine_of(((1, 2), (3,), (), ()))
        self.assertEqual(label(machine, ("must", at(3))), [F, T, F, T])
        self.assertEqual(label(machine, ("must", ("or", at(2), at(3)))), [T, T, T, T])
        self.assertEqual(label(machine, ("must", at(0))), [T, F, F, F])

    def test_must_within_ticks(self):
        self.check(("mustin", 0, at(3)), 3)
        self.check(("mustin", 1, at(3)), 3, 4)
        self.check(("mustin", 2, at(3)), 1, 3, 4)
        self.check(("mustin", 3, at(3)), 1, 3, 4)
        self.check(("mustin", 2, ("or", at(3), at(5))), 1, 2, 3, 4, 5)
        self.check(("mustin", 3, ("or", at(3), at(5))), 0, 1, 2, 3, 4, 5)
        self.check(("mustin", 1000, at(7)), 6, 7)
        self.check(("mustin", 0, at(99)))

    def test_must_within_ticks_goes_by_the_slowest_way(self):
        machine = machine_of(((1, 4), (2,), (3,), (4,), (4,)))
        for ticks, expected in [(1, [F, F, F, T, T]), (2, [F, F, T, T, T]), (3, [F, T, T, T, T]), (4, [T] * 5)]:
            self.assertEqual(label(machine, ("mustin", ticks, at(4))), expected)
        for ticks, expected in [(0, [F, F, F, F, T]), (1, [T, F, F, T, T]), (2, [T, F, T, T, T])]:
            self.assertEqual(label(machine, ("canin", ticks, at(4))), expected)

    def test_long_line(self):
        machine = machine_of(tuple((n + 1,) for n in range(999)) + ((),))
        for word in ("canin", "mustin"):
            for ticks in (0, 1, 500, 998, 999, 1000):
                truths = label(machine, (word, ticks, at(999)))
                self.assertEqual(truths, [n + ticks >= 999 for n in range(1000)])
        self.assertEqual(label(machine, ("can", at(999))), [T] * 1000)
        self.assertEqual(label(machine, ("must", at(999))), [T] * 1000)
        self.assertEqual(label(machine, ("must", at(998))), [T] * 999 + [F])

    def test_facts_in_facts(self):
        self.check(("next", ("next", at(3))), 0, 1)
        self.check(("can", ("and", at(5), ("next", at(6)))), 0, 2, 5)
        self.check(not_(("can", not_(("can", at(3))))), 1, 3, 4)
        self.check(("must", ("not", ("next", ("holds", ("true",))))), 1, 3, 4, 6, 7)
        self.check(("mustin", 1, ("canin", 1, at(3))), 1, 3, 4)
        self.check(("or", ("must", at(5)), ("and", ("can", at(3)), ("next", at(4)))), 1, 2, 5)

    def test_200_levels(self):
        fact = at(7)
        for word in ["next", "not", "can", "must", "not"] * 39:
            fact = (word, fact)
        self.assertEqual(len(label(MACHINE, fact)), 8)

    def test_values_of_the_states(self):
        plant, facts, _ = compile_source(
            "part p { var x : 3..5 from 3; move m do x := x + 1; } define late = next x > 4; define end = not can x < 4;"
        )
        machine = unfold(plant, 9)
        self.assertEqual(machine[0], ((3,), (4,), (5,)))
        self.assertEqual([label(machine, fact) for _, fact in facts], [[F, T, F], [F, T, T]])

    def test_against_the_definition(self):
        chance = chance_from(3)
        for _ in range(300):
            machine = unfold(random_walker(chance, 6), 6)
            fact = random_fact(chance, 3, 6)
            expected = [holds_by_definition(machine, fact, state) for state in range(len(machine[0]))]
            self.assertEqual(label(machine, fact), expected, (machine, fact))

    def test_result_is_new(self):
        for fact in (at(3), ("can", at(3)), ("next", at(3))):
            expected = list(label(MACHINE, fact))
            truths = label(MACHINE, fact)
            self.assertTrue(all(type(truth) is bool for truth in truths))
            truths.clear()
            self.assertEqual(label(MACHINE, fact), expected)


if __name__ == "__main__":
    unittest.main()
