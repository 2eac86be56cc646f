"""Requirements and their memories: points [36] to [38], and the interface of wardens/memory.py."""

import itertools
import unittest

from definitions import holds_after, memory_after
from samples import at, chance_from, fact, random_requirement
from wardens.memory import facts_in, first_memory, meets, next_memory, weight

T, F = True, False
R, S, Q = fact(1), fact(2), fact(3)


def memories(requirement, history):
    """The memories after each tick; each tick is a list of truth values, or one truth value alone."""
    found = []
    for tick in history:
        holds = tick if isinstance(tick, (list, tuple)) else [tick]
        if not found:
            found.append(first_memory(requirement, holds))
        else:
            found.append(next_memory(requirement, found[-1], holds))
    return found


def truths(requirement, history):
    return [meets(requirement, memory) for memory in memories(requirement, history)]


class TestFactsIn(unittest.TestCase):
    def test_one_fact(self):
        self.assertEqual(facts_in(R), [at(1)])

    def test_from_left_to_right(self):
        requirement = ("since", ("and", R, ("not", S)), ("or", ("once", Q), ("oncein", 3, ("before", fact(4)))))
        self.assertEqual(facts_in(requirement), [at(1), at(2), at(3), at(4)])
        self.assertEqual(facts_in(("and", ("or", Q, S), R)), [at(3), at(2), at(1)])

    def test_one_for_each_place(self):
        self.assertEqual(facts_in(("and", R, ("since", R, ("or", S, R)))), [at(1), at(1), at(2), at(1)])

    def test_facts_within_facts_are_no_places(self):
        whole = ("and", at(1), ("not", ("canin", 2, at(2))))
        self.assertEqual(facts_in(("not", ("fact", whole))), [whole])

    def test_result_is_new(self):
        for requirement in (R, ("and", R, S)):
            expected = list(facts_in(requirement))
            facts_in(requirement).clear()
            self.assertEqual(facts_in(requirement), expected)


class TestWeight(unittest.TestCase):
    def test_each_kind(self):
        for requirement, expected in [
            (R, 1), (("not", R), 1), (("and", R, S), 1), (("or", R, S), 1), (("before", R), 2), (("once", R), 2),
            (("oncein", 0, R), 2), (("oncein", 5, R), 7), (("oncein", 1000, R), 1002), (("since", R, S), 2),
        ]:
            self.assertEqual(weight(requirement), expected, requirement)

    def test_kinds_within_kinds(self):
        three = ("oncein", 1, R)
        for requirement, expected in [
            (("not", three), 3), (("and", three, ("once", S)), 6), (("or", three, three), 9),
            (("before", three), 6), (("once", three), 6), (("oncein", 3, three), 15), (("since", three, three), 18),
            (("since", ("before", R), ("not", ("oncein", 3, three))), 60),
        ]:
            self.assertEqual(weight(requirement), expected, requirement)


class TestMeets(unittest.TestCase):
    def test_fact(self):
        self.assertEqual(truths(R, [T, F, T]), [T, F, T])

    def test_not(self):
        self.assertEqual(truths(("not", R), [T, F, T]), [F, T, F])

    def test_and_or(self):
        history = [[F, F], [F, T], [T, F], [T, T]]
        self.assertEqual(truths(("and", R, S), history), [F, F, F, T])
        self.assertEqual(truths(("or", R, S), history), [F, T, T, T])

    def test_before(self):
        self.assertEqual(truths(("before", R), [T, F, T, T]), [F, T, F, T])
        self.assertEqual(truths(("before", R), [F, T]), [F, F])
        self.assertEqual(truths(("before", ("before", R)), [T, F, F, T, T]), [F, F, T, F, F])

    def test_before_at_the_first_tick(self):
        self.assertEqual(truths(("before", ("not", R)), [F, F]), [F, T])
        self.assertEqual(truths(("not", ("before", R)), [T, T]), [T, F])
        self.assertEqual(truths(("before", ("not", ("before", R))), [F, T, T, T]), [F, T, T, F])

    def test_once(self):
        self.assertEqual(truths(("once", R), [F, T, F, F]), [F, T, T, T])
        self.assertEqual(truths(("once", R), [T]), [T])
        self.assertEqual(truths(("once", R), [F, F]), [F, F])
        self.assertEqual(truths(("not", ("once", ("not", R))), [T, T, F, T]), [T, T, F, F])

    def test_once_within_ticks(self):
        history = [F, T, F, F, F, T, T, F, F, F]
        self.assertEqual(truths(("oncein", 0, R), history), history)
        self.assertEqual(truths(("oncein", 1, R), history), [F, T, T, F, F, T, T, T, F, F])
        self.assertEqual(truths(("oncein", 2, R), history), [F, T, T, T, F, T, T, T, T, F])
        self.assertEqual(truths(("oncein", 1000, R), history), [F] + [T] * 9)

    def test_since(self):
        history = [[T, F], [F, T], [T, F], [T, F], [F, F], [T, F], [T, T], [F, F], [F, T]]
        self.assertEqual(truths(("since", R, S), history), [F, T, T, T, F, F, T, F, T])
        self.assertEqual(truths(("since", R, S), [[T, F]]), [F])
        self.assertEqual(truths(("since", R, S), [[F, T]]), [T])
        self.assertEqual(truths(("since", R, S), [[F, T], [T, F], [F, F], [T, F]]), [T, T, F, F])


class TestMemory(unittest.TestCase):
    def test_fact(self):
        self.assertEqual(memories(R, [T, F]), [(T,), (F,)])

    def test_not(self):
        self.assertEqual(memories(("not", R), [T, F]), [(T,), (F,)])
        self.assertEqual(memories(("not", ("once", R)), [F, T]), [(F, F), (T, T)])

    def test_and_or(self):
        for word in ("and", "or"):
            self.assertEqual(memories((word, R, S), [[T, F], [F, T]]), [(T, F), (F, T)])
            self.assertEqual(
                memories((word, ("once", R), ("before", S)), [[T, T], [F, F]]), [(T, T, F, T), (T, F, T, F)],
            )

    def test_before(self):
        self.assertEqual(memories(("before", R), [T, F, F]), [(F, T), (T, F), (F, F)])
        self.assertEqual(memories(("before", ("not", R)), [F, F, T]), [(F, F), (T, F), (T, T)])
        self.assertEqual(
            memories(("before", ("before", R)), [T, F, F, F]), [(F, F, T), (F, T, F), (T, F, F), (F, F, F)],
        )
        self.assertEqual(memories(("before", ("oncein", 1, R)), [T, F, F, F]), [
            (F, 0, T), (T, 1, F), (T, 2, F), (F, 2, F),
        ])

    def test_once(self):
        self.assertEqual(memories(("once", R), [F, T, F]), [(F, F), (T, T), (T, F)])
        self.assertEqual(memories(("once", ("before", R)), [T, F, F]), [(F, F, T), (T, T, F), (T, F, F)])

    def test_once_within_ticks(self):
        history = [F, T, F, F, F, F, T, T]
        self.assertEqual(memories(("oncein", 2, R), history), [
            (3, F), (0, T), (1, F), (2, F), (3, F), (3, F), (0, T), (0, T),
        ])
        self.assertEqual(memories(("oncein", 0, R), history), [
            (1, F), (0, T), (1, F), (1, F), (1, F), (1, F), (0, T), (0, T),
        ])
        self.assertEqual(memories(("oncein", 1000, R), [F, F]), [(1001, F), (1001, F)])

    def test_once_within_ticks_at_its_end(self):
        for k in (1, 3, 1000):
            requirement = ("oncein", k, R)
            self.assertEqual(next_memory(requirement, (k - 1, F), [F]), (k, F))
            self.assertEqual(next_memory(requirement, (k, F), [F]), (k + 1, F))
            self.assertEqual(next_memory(requirement, (k + 1, F), [F]), (k + 1, F))
            self.assertIs(meets(requirement, (k, F)), True)
            self.assertIs(meets(requirement, (k + 1, F)), False)

    def test_since(self):
        self.assertEqual(memories(("since", R, S), [[F, T], [T, F], [F, F], [T, F]]), [
            (T, F, T), (T, T, F), (F, F, F), (F, T, F),
        ])
        self.assertEqual(memories(("since", ("once", R), ("before", S)), [[T, T], [F, F], [F, F]]), [
            (F, T, T, F, T), (T, T, F, T, F), (T, T, F, F, F),
        ])

    def test_kinds_within_kinds(self):
        requirement = ("and", ("not", ("since", R, ("oncein", 1, S))), ("or", ("before", Q), R))
        self.assertEqual(memories(requirement, [[T, T, T, F], [F, F, F, F], [F, F, T, T]]), [
            (T, T, 0, T, F, T, F), (T, F, 1, F, T, F, F), (F, F, 2, F, F, T, T),
        ])

    def test_holds_as_a_list_and_as_a_tuple(self):
        requirement = ("since", R, ("once", S))
        memory = first_memory(requirement, [T, F])
        self.assertEqual(memory, first_memory(requirement, (T, F)))
        self.assertEqual(next_memory(requirement, memory, [F, T]), next_memory(requirement, memory, (F, T)))
        self.assertEqual(next_memory(requirement, memory, (F, T)), (T, F, T, T))

    def test_holds_stays_as_it_is(self):
        holds = [T, F]
        requirement = ("since", R, S)
        next_memory(requirement, first_memory(requirement, holds), holds)
        self.assertEqual(holds, [T, F])

    def test_kinds_of_values(self):
        requirement = ("oncein", 2, ("since", R, ("once", ("before", S))))
        for memory in memories(requirement, [[T, F], [F, T], [T, T]]):
            self.assertIs(type(memory), tuple)
            self.assertIs(type(memory[0]), int)
            self.assertTrue(all(type(item) is bool for item in memory[1:]))
            self.assertIs(type(meets(requirement, memory)), bool)

    def test_200_levels(self):
        requirement = R
        for word in ["before", "once", "not"] * 66:
            requirement = (word, requirement)
        self.assertEqual(len(memories(requirement, [T, F, T])[-1]), 133)
        self.assertEqual(weight(requirement), 2 ** 132)
        many = R
        for _ in range(199):
            many = ("and", many, R)
        self.assertEqual(truths(many, [[T] * 200, [T] * 199 + [F]]), [T, F])


class TestAgainstTheDefinition(unittest.TestCase):
    def check(self, requirement, histories):
        for history in histories:
            found = memories(requirement, history)
            for ticks in range(1, len(history) + 1):
                self.assertEqual(found[ticks - 1], memory_after(requirement, history[:ticks]), requirement)
                self.assertIs(meets(requirement, found[ticks - 1]), holds_after(requirement, history[:ticks]))

    def test_each_kind(self):
        ticks = [list(tick) for tick in itertools.product([F, T], repeat=2)]
        histories = [list(history) for history in itertools.product(ticks, repeat=4)]
        for requirement in [
            ("and", R, S), ("since", R, S), ("since", ("not", R), ("before", S)), ("or", ("before", R), ("once", S)),
            ("oncein", 1, ("since", R, S)), ("before", ("since", R, S)), ("not", ("since", ("before", R), S)),
            ("once", ("and", R, ("before", ("not", S)))), ("oncein", 2, ("and", ("oncein", 0, R), S)),
        ]:
            self.check(requirement, histories)

    def test_at_random(self):
        chance = chance_from(4)
        for _ in range(300):
            requirement = random_requirement(chance, 4, 3)
            count = len(facts_in(requirement))
            history = [[chance.random() < 0.5 for _ in range(count)] for _ in range(6)]
            self.check(requirement, [history])


if __name__ == "__main__":
    unittest.main()
