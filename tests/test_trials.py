"""Trials: points [46] to [48], and the interface of wardens/trials.py."""

import itertools
import unittest

from samples import chance_from, random_monitor
from wardens.errors import TooMany
from wardens.minimal import reduce
from wardens.monitors import same, says
from wardens.trials import cover, separators, trials

S, N, U, I = "sure", "never", "unknown", "impossible"
TWO = ((7,), (None,))
A, B = (7,), (None,)
# Smallest monitors with one, two and more nodes.
ONE = (TWO, 0, (U,), ((0, 0),))
PAIR = (TWO, 0, (I, S), ((0, 1), (1, 1)))
RING = (TWO, 0, (U, U, U, S), ((1, 0), (2, 0), (3, 0), (3, 3)))
FORK = (TWO, 0, (I, N, N, S), ((1, 2), (1, 3), (3, 2), (3, 3)))


def led_to(monitor, node, row):
    for index in row:
        node = monitor[3][node][index]
    return node


def rows_of(count, longest):
    """All rows of indexes up to a length, in the order of the trials."""
    return [row for length in range(longest + 1) for row in itertools.product(range(count), repeat=length)]


def cover_of(monitor):
    """Point [47] word for word: the cover."""
    rows = [()]
    for row in rows:
        for index in range(len(monitor[0])):
            longer = row + (index,)
            if led_to(monitor, monitor[1], longer) not in [led_to(monitor, monitor[1], one) for one in rows]:
                rows.append(longer)
    return rows


def separators_of(monitor):
    """Points [46] and [47] word for word: the separators."""
    verdicts = monitor[2]
    found = [()]
    for j in range(len(verdicts)):
        for i in range(j):
            row = next(row for row in rows_of(len(monitor[0]), len(verdicts))
                       if verdicts[led_to(monitor, i, row)] != verdicts[led_to(monitor, j, row)])
            if row not in found:
                found.append(row)
    return found


def trials_of(monitor, extra):
    """Point [47] word for word: the trials."""
    small = reduce(monitor)
    found = []
    for first in cover_of(small):
        for middle in rows_of(len(monitor[0]), extra + 1):
            for last in separators_of(small):
                row = [small[0][index] for index in first + middle + last]
                if row not in found:
                    found.append(row)
    return found


def product_of(monitor, extra):
    small = reduce(monitor)
    return len(small[2]) * len(rows_of(len(small[0]), extra + 1)) * len(separators(small))


def small_monitors(seed, tries):
    chance = chance_from(seed)
    return [random_monitor(chance, 4, chance.randint(0, 2)) for _ in range(tries)]


class TestCover(unittest.TestCase):
    def test_one_node(self):
        self.assertEqual(cover(ONE), [()])
        self.assertEqual(cover(((), 0, (I,), ((),))), [()])

    def test_two_nodes(self):
        self.assertEqual(cover(PAIR), [(), (1,)])
        self.assertEqual(cover((TWO, 0, (I, S), ((1, 1), (1, 0)))), [(), (0,)])

    def test_more_nodes(self):
        self.assertEqual(cover(RING), [(), (0,), (0, 0), (0, 0, 0)])
        self.assertEqual(cover(FORK), [(), (0,), (1,), (0, 1)])

    def test_against_the_definition(self):
        for monitor in small_monitors(40, 200):
            small = reduce(monitor)
            self.assertEqual(cover(small), cover_of(small))


class TestSeparators(unittest.TestCase):
    def test_one_node(self):
        self.assertEqual(separators(ONE), [()])
        self.assertEqual(separators(((), 0, (I,), ((),))), [()])

    def test_two_nodes(self):
        self.assertEqual(separators(PAIR), [()])

    def test_more_nodes(self):
        # 0 and 1: two readings to S from 1, three from 0; 0 and 2, 1 and 2: one from 2.
        self.assertEqual(separators(RING), [(), (0, 0), (0,)])
        self.assertEqual(separators(FORK), [(), (0,)])

    def test_first_of_several_shortest_rows(self):
        monitor = (TWO, 0, (U, U, S, N), ((2, 2), (3, 3), (2, 2), (3, 3)))
        self.assertEqual(separators(monitor), [(), (0,)])
        monitor = (TWO, 0, (U, U, S, N), ((2, 2), (2, 3), (2, 2), (3, 3)))
        self.assertEqual(separators(monitor), [(), (1,)])

    def test_first_reading_that_leads_to_a_longer_row_is_no_help(self):
        # By reading 0 the nodes 0 and 1 come to nodes that three readings tell apart, by reading 1 sooner.
        monitor = (TWO, 0, (U, U, U, U, S, N), ((2, 4), (3, 3), (3, 0), (4, 1), (4, 4), (5, 5)))
        self.assertEqual(separators(monitor), separators_of(monitor))

    def test_order_of_the_pairs(self):
        # Pairs come by the greater node first: (0, 1), (0, 2), (1, 2), (0, 3), ..
        monitor = (TWO, 0, (U, U, U, S, N), ((1, 2), (3, 1), (2, 4), (3, 3), (4, 4)))
        self.assertEqual(separators(monitor), [(), (0,), (1,)])
        monitor = (TWO, 0, (U, U, U, S, N), ((1, 2), (1, 3), (4, 2), (3, 3), (4, 4)))
        self.assertEqual(separators(monitor), [(), (1,), (0,)])

    def test_long_rows(self):
        size = 60
        edges = tuple((min(node + 1, size - 1), node) for node in range(size))
        monitor = (TWO, 0, (U,) * (size - 1) + (S,), edges)
        found = separators(monitor)
        self.assertEqual(sorted(found, key=len), [(0,) * length for length in range(size - 1)])
        self.assertEqual(cover(monitor), [(0,) * length for length in range(size)])

    def test_against_the_definition(self):
        for monitor in small_monitors(41, 200):
            small = reduce(monitor)
            self.assertEqual(separators(small), separators_of(small))


class TestTrials(unittest.TestCase):
    def test_no_node_more(self):
        self.assertEqual(trials(ONE, 0, 99), [[], [A], [B]])
        self.assertEqual(trials(PAIR, 0, 99), [[], [A], [B], [B, A], [B, B]])

    def test_one_node_more(self):
        self.assertEqual(trials(ONE, 1, 99), [[], [A], [B], [A, A], [A, B], [B, A], [B, B]])

    def test_two_nodes_more(self):
        self.assertEqual(trials(ONE, 2, 99), [
            [], [A], [B], [A, A], [A, B], [B, A], [B, B], [A, A, A], [A, A, B], [A, B, A], [A, B, B],
            [B, A, A], [B, A, B], [B, B, A], [B, B, B],
        ])

    def test_order_and_rows_that_come_about_several_times(self):
        self.assertEqual(trials(FORK, 0, 99), [
            [], [A], [A, A], [B], [B, A], [A, A, A], [A, B], [A, B, A], [B, A, A], [B, B], [B, B, A],
            [A, B, A, A], [A, B, B], [A, B, B, A],
        ])

    def test_monitor_that_is_not_the_smallest(self):
        monitor = (TWO, 2, (S, S, I, N), ((1, 0), (0, 1), (2, 0), (3, 3)))
        for extra in (0, 1, 2):
            self.assertEqual(trials(monitor, extra, 999), trials(PAIR, extra, 999))

    def test_no_readings(self):
        for extra in (0, 1, 2):
            self.assertEqual(trials(((), 0, (S,), ((),)), extra, 1), [[]])
            with self.assertRaises(TooMany) as caught:
                trials(((), 0, (S,), ((),)), extra, 0)
            self.assertEqual(caught.exception.what, "tests")

    def test_at_the_limit_and_one_beyond_it(self):
        for monitor, extra, product in [
            (ONE, 0, 3), (ONE, 1, 7), (ONE, 2, 15), (PAIR, 0, 6), (PAIR, 2, 30), (RING, 0, 36), (RING, 1, 84),
            (FORK, 0, 24), (FORK, 1, 56), (FORK, 2, 120),
        ]:
            trials(monitor, extra, product)
            for most in (0, product // 3, product - 1):
                with self.assertRaises(TooMany) as caught:
                    trials(monitor, extra, most)
                self.assertEqual(caught.exception.what, "tests")

    def test_limit_counts_the_smallest_monitor(self):
        monitor = (TWO, 2, (S, S, I, N), ((1, 0), (0, 1), (2, 0), (3, 3)))
        self.assertEqual(len(trials(monitor, 0, 6)), 5)

    def test_far_too_many(self):
        count = 200
        edges = tuple(tuple((node + index) % count for index in range(count)) for node in range(count))
        monitor = (tuple((k,) for k in range(count)), 0, (S,) + (N,) * (count - 1), edges)
        with self.assertRaises(TooMany):
            trials(monitor, 2, 400)

    def test_results_are_new(self):
        made = trials(PAIR, 0, 99)
        made[1].clear()
        made.clear()
        self.assertEqual(trials(PAIR, 0, 99)[1], [A])
        for function in (cover, separators):
            before = list(function(RING))
            function(RING).clear()
            self.assertEqual(function(RING), before)

    def test_against_the_definition(self):
        for monitor in small_monitors(42, 80):
            for extra in (0, 1, 2):
                self.assertEqual(trials(monitor, extra, product_of(monitor, extra)), trials_of(monitor, extra))
                with self.assertRaises(TooMany):
                    trials(monitor, extra, product_of(monitor, extra) - 1)


class TestPassing(unittest.TestCase):
    def check(self, monitor, device, extra):
        """Point [48]: a device that is not too great, and passes the trials, says the same."""
        rows = trials(monitor, extra, 9999)
        passes = all(says(device, row) == says(monitor, row) for row in rows)
        self.assertEqual(passes, same(monitor, device) is None, (monitor, device))

    def test_devices_that_say_otherwise(self):
        # Says otherwise behind so many readings A at the end only.
        for extra in (0, 1, 2):
            ends = 4 + extra
            edges = tuple((node + 1, 0) for node in range(ends - 1)) + ((ends - 1, ends - 1),)
            device = (TWO, 0, (U,) * (ends - 1) + (S,), edges)
            self.check(RING, device, extra)

    def test_random_devices(self):
        chance = chance_from(43)
        for _ in range(300):
            monitor = random_monitor(chance, 3, 2)
            small = reduce(monitor)
            for extra in (0, 1, 2):
                self.check(monitor, random_monitor(chance, len(small[2]) + extra, 2), extra)

    def test_devices_that_are_almost_right(self):
        chance = chance_from(44)
        for _ in range(300):
            monitor = random_monitor(chance, 3, 2)
            extra = chance.randint(0, 2)
            self.check(monitor, self.almost(chance, reduce(monitor), extra), extra)

    def almost(self, chance, small, extra):
        """A device with nodes that stand for others, and one change."""
        size = len(small[2])
        stands_for = list(range(size)) + [chance.randrange(size) for _ in range(extra)]
        verdicts = [small[2][node] for node in stands_for]
        edges = [[chance.choice([new for new, old in enumerate(stands_for) if old == later])
                  for later in small[3][node]] for node in stands_for]
        changed = chance.randrange(size + extra)
        if chance.random() < 0.5:
            verdicts[changed] = chance.choice([S, N, U, I])
        else:
            edges[changed][chance.randrange(2)] = chance.randrange(size + extra)
        return (small[0], 0, tuple(verdicts), tuple(tuple(row) for row in edges))


if __name__ == "__main__":
    unittest.main()
