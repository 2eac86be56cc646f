"""Wardens and fleets: points [63] to [66], and the interface of wardens/watch.py."""

import unittest

from samples import TANK, chance_from
from wardens.errors import NameTaken, NoFit, NoRequirement, NotFound, SourceError, TooMany
from wardens.judging import judge
from wardens.names import compile_source, problems
from wardens.readings import possible_readings
from wardens.tracking import evaluate, track
from wardens.unfolding import is_run, unfold
from wardens.watch import Fleet, Warden

# The lamp is on at every second tick.
LAMP = "part lamp { var on : 0..1 from 0; move flip do on := 1 - on; } sensor light = on lossy; require lit = on = 1;"
# Which of 1 and 2 was first is not seen.
FORK = """
part p { var x : 0..6 from 0; move a when x = 0 do x := 2; move b when x = 0 do x := 1; move c when x = 1 do x := 3;
  move d when x = 2 do x := 3; move e when x = 2 do x := 4; move f when x > 2; }
sensor seen = min(x, 1);
require three = x = 3;
require low = once x = 1;
"""
NEVER = [("full", "never"), ("was", "never"), ("calm", "sure")]
# A warden that takes any number of readings.
STILL = "part p { move stay; } sensor s = 0; require r = true;"
LIMIT = 60


def read_all(warden, *items):
    """Passes readings of one item each, and returns what the last one returned."""
    return [warden.read((item,)) for item in items][-1]


def state_of(fleet):
    """All that can be asked of a fleet."""
    return fleet.names(), fleet.verdicts(), fleet.alarms()


class TestWardenBegins(unittest.TestCase):
    def test_first_problem(self):
        for source in ("require r = x; part p { var x : 0..500; }", "x", "const c = 1; const c = 1;", TANK + "require full = true;"):
            line, column, what = problems(source)[0]
            with self.assertRaises(SourceError) as caught:
                Warden(source)
            error = caught.exception
            self.assertEqual((error.line, error.column, error.what), (line, column, what))

    def test_no_requirement(self):
        for source in ("", "define d = true;", "part p { var x : 0..500; move stay; }"):
            with self.assertRaises(NoRequirement):
                Warden(source)

    def test_too_many_states(self):
        with self.assertRaises(TooMany) as caught:
            Warden("part p { var x : 0..200; move stay; } require r = once[900] x = 1;")
        self.assertEqual(caught.exception.what, "states")
        Warden("part p { var x : 0..199; move stay; } require r = x = 1;")

    def test_too_many_pairs(self):
        source = "part p { var x : 0..1; move any do x := 0..1; } require q = x = 1; require r = once[398] x = 1;"
        Warden(source)
        for changed in (source.replace("398", "399"), source.replace("398", "399") + "require s = true;"):
            with self.assertRaises(TooMany) as caught:
                Warden(changed)
            self.assertEqual(caught.exception.what, "pairs")

    def test_requirements_are_tracked_one_by_one(self):
        # Each has a few hundred tracked states, both together many more.
        warden = Warden("part p { var x : 0..2; move any do x := 0..2; }"
                        "require r = once[150] x = 1; require s = once[100] x = 2;")
        self.assertEqual(warden.verdicts(), [("r", "impossible"), ("s", "impossible")])


class TestWarden(unittest.TestCase):
    def test_before_the_first_reading(self):
        warden = Warden(TANK)
        self.assertEqual(warden.verdicts(), [("full", "impossible"), ("was", "impossible"), ("calm", "impossible")])
        self.assertEqual(warden.readings(), [])
        self.assertIs(warden.back(), False)
        for name in ("full", "was", "calm"):
            for met in (True, False):
                self.assertIsNone(warden.explain(name, met))

    def test_read_and_verdicts(self):
        warden = Warden(TANK)
        for item, verdicts in [
            (0, ["never", "never", "sure"]), (2, ["never", "never", "sure"]), (2, ["never", "never", "never"]),
            (3, ["sure", "sure", "never"]), (0, ["never", "sure", "never"]),
        ]:
            expected = list(zip(("full", "was", "calm"), verdicts))
            self.assertEqual(warden.read((item,)), expected)
            self.assertEqual(warden.verdicts(), expected)

    def test_unknown(self):
        warden = Warden(TANK)
        self.assertEqual(read_all(warden, 0, 1, 1), [("full", "never"), ("was", "never"), ("calm", "unknown")])

    def test_readings_as_tuples(self):
        warden = Warden(TANK)
        warden.read([0])
        warden.read((1,))
        self.assertEqual(warden.readings(), [(0,), (1,)])
        lamp = Warden(LAMP)
        lamp.read([None])
        self.assertEqual(lamp.readings(), [(None,)])

    def test_no_fit(self):
        warden = Warden(TANK)
        for reading in [(2,), (-2,), (None,), (), (0, 0), [0, 0]]:
            with self.assertRaises(NoFit):
                warden.read(reading)
        self.assertEqual(warden.readings(), [])
        warden.read((0,))
        before = warden.verdicts()
        for reading in [(4,), (3,), (), (0, 0), (None,)]:
            with self.assertRaises(NoFit):
                warden.read(reading)
        self.assertEqual((warden.readings(), warden.verdicts()), ([(0,)], before))
        self.assertEqual(warden.read((2,)), NEVER)

    def test_dead_end(self):
        warden = Warden("part p { var x : 0..1 from 0; move go do x := x + 1; } sensor s = x; require r = x = 1;")
        self.assertEqual(read_all(warden, 0, 1), [("r", "sure")])
        with self.assertRaises(NoFit):
            warden.read((1,))

    def test_back(self):
        warden = Warden(TANK)
        read_all(warden, 0, 2, 2, 3)
        self.assertIs(warden.back(), True)
        self.assertEqual(warden.readings(), [(0,), (2,), (2,)])
        self.assertEqual(warden.verdicts(), [("full", "never"), ("was", "never"), ("calm", "never")])
        self.assertEqual(warden.read((1,)), [("full", "never"), ("was", "never"), ("calm", "never")])
        for _ in range(4):
            self.assertIs(warden.back(), True)
        self.assertIs(warden.back(), False)
        self.assertEqual(warden.readings(), [])
        self.assertEqual(warden.verdicts()[0], ("full", "impossible"))
        self.assertEqual(warden.read((0,)), NEVER)

    def test_operations(self):
        warden = Warden(STILL)
        for _ in range(LIMIT):
            self.assertEqual(warden.read((0,)), [("r", "sure")])
        with self.assertRaises(TooMany) as caught:
            warden.read((0,))
        self.assertEqual(caught.exception.what, "operations")
        self.assertEqual(warden.readings(), [(0,)] * LIMIT)
        # NoFit comes before TooMany.
        for reading in [(1,), (), (0, 0)]:
            with self.assertRaises(NoFit):
                warden.read(reading)
        self.assertIs(warden.back(), True)
        warden.read((0,))
        self.assertEqual(len(warden.readings()), LIMIT)

    def test_no_sensors(self):
        warden = Warden("part p { var x : 0..1 from 0; move flip do x := 1 - x; } require r = x = 1;")
        self.assertEqual([warden.read(()) for _ in range(3)], [[("r", "never")], [("r", "sure")], [("r", "never")]])
        with self.assertRaises(NoFit):
            warden.read((0,))

    def test_results_can_be_changed(self):
        warden = Warden(TANK)
        returned = [warden.read([0]), warden.read([2]), warden.verdicts(), warden.readings(), warden.explain("calm", True)]
        for made in returned:
            self.assertIs(type(made), list)
            made.clear()
        self.assertEqual(warden.readings(), [(0,), (2,)])
        self.assertEqual(warden.verdicts(), NEVER)
        self.assertEqual(warden.explain("calm", True), [(0,), (1,)])

    def test_passed_reading_can_be_changed(self):
        warden, reading = Warden(TANK), [0]
        warden.read(reading)
        self.assertEqual(reading, [0])
        reading[0] = 7
        self.assertEqual(warden.readings(), [(0,)])

    def test_two_wardens_of_one_source(self):
        one, other = Warden(TANK), Warden(TANK)
        read_all(one, 0, 2, 3)
        self.assertEqual(other.readings(), [])
        self.assertEqual(other.verdicts()[0], ("full", "impossible"))
        read_all(other, 0, 1)
        one.back()
        self.assertEqual((one.readings(), other.readings()), ([(0,), (2,)], [(0,), (1,)]))

    def test_says_what_judging_finds(self):
        chance = chance_from(110)
        for source in (TANK, LAMP, FORK, STILL):
            plant, _, requirements = compile_source(source)
            machine = unfold(plant, 99)
            readings = possible_readings(plant, machine, 99)
            tracked = [(name, track(machine, requirement, 99)) for name, requirement in requirements]
            warden, row = Warden(source), []
            for _ in range(200):
                reading = chance.choice(readings)
                verdicts = [(name, judge(plant, one, row + [reading])) for name, one in tracked]
                if chance.random() < 0.2:
                    self.assertIs(warden.back(), len(row) > 0)
                    row = row[:-1]
                elif verdicts[0][1] == "impossible":
                    self.assertRaises(NoFit, warden.read, reading)
                elif len(row) < 20:
                    self.assertEqual(warden.read(reading), verdicts)
                    row.append(reading)
                self.assertEqual(warden.readings(), row)
                self.assertEqual(warden.verdicts(), [(name, judge(plant, one, row)) for name, one in tracked])


class TestExplain(unittest.TestCase):
    def test_both_truths(self):
        warden = Warden(TANK)
        read_all(warden, 0, 1, 1)
        self.assertEqual(warden.explain("calm", True), [(0,), (0,), (0,)])
        self.assertEqual(warden.explain("calm", False), [(0,), (1,), (2,)])

    def test_none(self):
        warden = Warden(TANK)
        read_all(warden, 0, 2, 2, 3)
        self.assertIsNone(warden.explain("full", False))
        self.assertIsNone(warden.explain("calm", True))
        self.assertEqual(warden.explain("full", True), [(0,), (1,), (2,), (3,)])

    def test_not_found(self):
        warden = Warden(TANK + "define low = level < 1;")
        for reading in (None, (0,)):
            if reading is not None:
                warden.read(reading)
            for name in ("nothing", "", "low", "tank", "gauge"):
                with self.assertRaises(NotFound) as caught:
                    warden.explain(name, True)
                self.assertEqual((caught.exception.kind, caught.exception.name), ("requirement", name))

    def test_several_runs(self):
        # 2 gets the number 1 and 1 the number 2, so before 3 comes 2.
        self.assertEqual(unfold(compile_source(FORK)[0], 9)[0], ((0,), (2,), (1,), (3,), (4,)))
        warden = Warden(FORK)
        read_all(warden, 0, 1, 1)
        self.assertEqual(warden.explain("three", True), [(0,), (2,), (3,)])
        self.assertEqual(warden.explain("three", False), [(0,), (2,), (4,)])
        self.assertEqual(warden.explain("low", True), [(0,), (1,), (3,)])
        self.assertEqual(warden.explain("low", False), [(0,), (2,), (3,)])

    def test_least_number_at_the_last_tick(self):
        # At the last tick 1 is possible, which has the least number of all, over 2 or over 3.
        source = ("part p { var x : 0..4 from 0; move a when x = 0 do x := 3; move b when x = 0 do x := 1..2;"
                  " move c when x > 1 do x := 4; move d when x = 2 do x := 1; move e when x = 1; }"
                  " sensor s = min(x, 1); require r = x > 0;")
        self.assertEqual(unfold(compile_source(source)[0], 9)[0], ((0,), (3,), (1,), (2,), (4,)))
        warden = Warden(source)
        read_all(warden, 0, 1, 1)
        self.assertEqual(warden.explain("r", True), [(0,), (1,), (1,)])
        read_all(warden, 1)
        self.assertEqual(warden.explain("r", True), [(0,), (1,), (1,), (1,)])

    def test_state_before_has_to_be_possible(self):
        # 1 leads to 3 as well, and has the lower number, but does not fit the reading.
        source = ("part p { var x : 0..3 from 0; move a when x = 0 do x := 1..2; move b when x > 0 do x := 3; }"
                  " sensor s = x - min(x, 1); require r = x = 3;")
        warden = Warden(source)
        self.assertEqual(unfold(compile_source(source)[0], 9)[0], ((0,), (1,), (2,), (3,)))
        read_all(warden, 0, 1, 2)
        self.assertEqual(warden.explain("r", True), [(0,), (2,), (3,)])

    def test_first_tick(self):
        warden = Warden("part p { var x : 0..5 from 2..4; move stay; } require r = x > 2;")
        warden.read(())
        self.assertEqual((warden.explain("r", True), warden.explain("r", False)), ([(3,)], [(2,)]))

    def test_after_back(self):
        warden = Warden(FORK)
        read_all(warden, 0, 1, 1)
        warden.back()
        self.assertEqual(warden.explain("three", False), [(0,), (2,)])
        self.assertIsNone(warden.explain("three", True))

    def test_against_the_definition(self):
        chance = chance_from(111)
        for source in (TANK, LAMP, FORK):
            plant, _, requirements = compile_source(source)
            machine = unfold(plant, 99)
            readings = possible_readings(plant, machine, 99)
            for _ in range(30):
                warden = Warden(source)
                for reading in chance.choices(readings, k=12):
                    try:
                        warden.read(reading)
                    except NoFit:
                        continue
                    for name, requirement in requirements:
                        self.check(plant, machine, (name, requirement), warden)

    def check(self, plant, machine, named, warden):
        """Point [64], from the tracked states that are possible at each tick."""
        name, requirement = named
        marks, starts, steps, meets = track(machine, requirement, 99)
        possible = [[number for number in range(len(marks))
                     if self.is_possible(plant, (marks, starts, steps), warden.readings()[:ticks + 1], number)]
                    for ticks in range(len(warden.readings()))]
        for met in (True, False):
            ends = [number for number in possible[-1] if meets[number] == met]
            run = warden.explain(name, met)
            if not ends:
                self.assertIsNone(run)
                continue
            numbers = [min(ends)]
            for earlier in reversed(possible[:-1]):
                numbers.insert(0, min(number for number in earlier if numbers[0] in steps[number]))
            self.assertEqual(run, [marks[number][0] for number in numbers])
            self.assertTrue(is_run(plant, run))
            self.assertEqual(evaluate(plant, machine, requirement, run)[-1], met)

    def is_possible(self, plant, tracked, row, number):
        """Whether some walk that fits the row ends in a tracked state."""
        marks, starts, steps = tracked
        only = tuple(one == number for one in range(len(marks)))
        return judge(plant, (marks, starts, steps, only), row) in ("sure", "unknown")


class TestFleet(unittest.TestCase):
    def setUp(self):
        self.fleet = Fleet()

    def unchanged(self, error, call, *arguments):
        """Checks that a call raises an error, and changes nothing; returns the error."""
        before = state_of(self.fleet)
        with self.assertRaises(error) as caught:
            call(*arguments)
        self.assertEqual(state_of(self.fleet), before)
        return caught.exception

    def fill(self, count=LIMIT - 1):
        """Puts a warden called still, and passes readings until there are 60 operations, or fewer."""
        self.assertIsNone(self.fleet.put("still", STILL))
        for _ in range(count):
            self.fleet.read("still", (0,))

    def test_empty(self):
        self.assertEqual(state_of(self.fleet), ([], [], []))
        self.assertIs(self.fleet.back(), False)

    def test_put(self):
        self.assertIsNone(self.fleet.put("b", TANK))
        self.assertIsNone(self.fleet.put("a", LAMP))
        self.assertEqual(self.fleet.names(), ["b", "a"])
        self.assertEqual(self.fleet.verdicts(), [
            ("b", [("full", "impossible"), ("was", "impossible"), ("calm", "impossible")]), ("a", [("lit", "impossible")]),
        ])
        self.assertEqual(self.fleet.alarms(), [])

    def test_put_what_is_no_warden(self):
        self.fleet.put("a", LAMP)
        for name in ("a", "b"):
            for source, kind in [("x", SourceError), ("", NoRequirement),
                                 ("part p { var x : 0..200; move stay; } require r = true;", TooMany)]:
                self.unchanged(kind, self.fleet.put, name, source)
        self.assertEqual(self.fleet.names(), ["a"])

    def test_put_errors_in_their_order(self):
        for number in range(8):
            self.fleet.put(f"w{number}", STILL)
        for _ in range(LIMIT - 8):
            self.fleet.read("w0", (0,))
        self.unchanged(SourceError, self.fleet.put, "w0", "x")
        self.unchanged(NoRequirement, self.fleet.put, "w0", "")
        self.unchanged(NameTaken, self.fleet.put, "w7", LAMP)
        self.assertEqual(self.unchanged(TooMany, self.fleet.put, "new", LAMP).what, "wardens")
        self.fleet.back()
        self.assertEqual(self.unchanged(TooMany, self.fleet.put, "new", LAMP).what, "wardens")

    def test_names_that_are_taken(self):
        self.fleet.put("a", LAMP)
        self.unchanged(NameTaken, self.fleet.put, "a", LAMP)
        self.unchanged(NameTaken, self.fleet.put, "a", TANK)
        self.fleet.put("A", LAMP)
        self.fleet.drop("a")
        self.fleet.put("a", TANK)
        self.assertEqual(self.fleet.names(), ["A", "a"])

    def test_wardens(self):
        for number in range(8):
            self.fleet.put(f"w{number}", LAMP)
        self.assertEqual(self.unchanged(TooMany, self.fleet.put, "w8", LAMP).what, "wardens")
        self.fleet.drop("w3")
        self.fleet.put("w8", LAMP)
        self.assertEqual(self.fleet.names(), ["w0", "w1", "w2", "w4", "w5", "w6", "w7", "w8"])

    def test_drop(self):
        for name in ("a", "b", "c"):
            self.fleet.put(name, LAMP)
        self.assertIsNone(self.fleet.drop("b"))
        self.assertEqual(self.fleet.names(), ["a", "c"])
        error = self.unchanged(NotFound, self.fleet.drop, "b")
        self.assertEqual((error.kind, error.name), ("warden", "b"))

    def test_read(self):
        self.fleet.put("a", TANK)
        self.fleet.put("b", TANK)
        self.assertEqual(self.fleet.read("a", (0,)), NEVER)
        self.assertEqual(self.fleet.read("a", [2]), NEVER)
        verdicts = dict(self.fleet.verdicts())
        self.assertEqual(verdicts["a"], NEVER)
        self.assertEqual(verdicts["b"][0], ("full", "impossible"))

    def test_read_errors(self):
        error = self.unchanged(NotFound, self.fleet.read, "a", (0,))
        self.assertEqual((error.kind, error.name), ("warden", "a"))
        self.fleet.put("a", TANK)
        for reading in [(7,), (), (0, 0), (None,)]:
            self.unchanged(NoFit, self.fleet.read, "a", reading)
        self.fleet.read("a", (0,))
        for reading in [(7,), (), (0, 0), (None,)]:
            self.unchanged(NoFit, self.fleet.read, "a", reading)
        self.assertEqual(self.fleet.read("a", (2,)), NEVER)

    def test_alarms(self):
        self.fleet.put("z", TANK)
        self.fleet.put("a", LAMP)
        self.fleet.put("m", STILL)
        for item in (0, 2, 2, 3):
            self.fleet.read("z", (item,))
        self.assertEqual(self.fleet.alarms(), [("z", "full"), ("z", "was")])
        self.fleet.read("m", (0,))
        self.fleet.read("a", (0,))
        self.fleet.read("a", (None,))
        self.assertEqual(self.fleet.alarms(), [("z", "full"), ("z", "was"), ("a", "lit"), ("m", "r")])
        self.fleet.read("z", (0,))
        self.assertEqual(self.fleet.alarms(), [("z", "was"), ("a", "lit"), ("m", "r")])

    def test_operations(self):
        self.fill()
        self.assertEqual(self.unchanged(TooMany, self.fleet.read, "still", (0,)).what, "operations")
        self.assertEqual(self.unchanged(TooMany, self.fleet.put, "new", LAMP).what, "operations")
        self.assertEqual(self.unchanged(TooMany, self.fleet.drop, "still").what, "operations")
        # Other errors come first.
        self.unchanged(NoFit, self.fleet.read, "still", (1,))
        self.unchanged(NoFit, self.fleet.read, "still", ())
        self.unchanged(NotFound, self.fleet.read, "none", (0,))
        self.unchanged(NotFound, self.fleet.drop, "none")
        self.unchanged(NameTaken, self.fleet.put, "still", LAMP)
        self.unchanged(SourceError, self.fleet.put, "still", "x")
        self.assertIs(self.fleet.back(), True)
        self.fleet.drop("still")
        self.assertEqual(self.unchanged(TooMany, self.fleet.put, "new", LAMP).what, "operations")

    def test_operations_are_those_that_can_be_taken_back(self):
        self.fill(LIMIT - 2)
        self.fleet.put("new", LAMP)
        self.unchanged(TooMany, self.fleet.read, "new", (0,))
        for _ in range(3):
            self.assertIs(self.fleet.back(), True)
        for _ in range(2):
            self.fleet.read("still", (0,))
        self.fleet.read("still", (0,))
        self.unchanged(TooMany, self.fleet.read, "still", (0,))
        for _ in range(LIMIT):
            self.assertIs(self.fleet.back(), True)
        self.assertIs(self.fleet.back(), False)
        self.assertEqual(state_of(self.fleet), ([], [], []))

    def test_calls_that_raise_are_no_operations(self):
        self.fleet.put("a", LAMP)
        self.unchanged(NameTaken, self.fleet.put, "a", LAMP)
        self.unchanged(NoFit, self.fleet.read, "a", (1,))
        self.unchanged(NotFound, self.fleet.drop, "b")
        self.assertIs(self.fleet.back(), True)
        self.assertEqual(self.fleet.names(), [])
        self.assertIs(self.fleet.back(), False)

    def test_back_after_put(self):
        self.fleet.put("a", LAMP)
        self.fleet.put("b", LAMP)
        self.assertIs(self.fleet.back(), True)
        self.assertEqual(self.fleet.names(), ["a"])
        self.fleet.put("b", TANK)
        self.assertEqual(len(self.fleet.verdicts()[1][1]), 3)

    def test_back_after_drop(self):
        for name in ("a", "b", "c"):
            self.fleet.put(name, TANK)
            self.fleet.read(name, (0,))
        self.fleet.read("b", (2,))
        before = state_of(self.fleet)
        for name in ("a", "b", "c"):
            self.fleet.drop(name)
            self.assertIs(self.fleet.back(), True)
            self.assertEqual(state_of(self.fleet), before)
        # Its readings are there again, and can be taken back.
        self.assertEqual(self.fleet.read("b", (3,))[2], ("calm", "never"))
        self.fleet.back()
        self.fleet.back()
        self.assertEqual(dict(self.fleet.verdicts())["b"], NEVER)
        self.assertRaises(NoFit, self.fleet.read, "b", (3,))

    def test_back_after_several_drops_and_a_put_of_the_same_name(self):
        self.fleet.put("a", TANK)
        self.fleet.put("b", LAMP)
        self.fleet.read("a", (0,))
        states = [state_of(self.fleet)]
        for call, arguments in [
            (self.fleet.drop, ("a",)), (self.fleet.put, ("a", LAMP)), (self.fleet.read, ("a", (0,))),
            (self.fleet.drop, ("b",)), (self.fleet.drop, ("a",)), (self.fleet.put, ("b", STILL)),
        ]:
            call(*arguments)
            states.append(state_of(self.fleet))
        while len(states) > 1:
            self.assertEqual(state_of(self.fleet), states.pop())
            self.assertIs(self.fleet.back(), True)
        self.assertEqual(state_of(self.fleet), states[0])

    def test_back_after_read(self):
        self.fleet.put("a", TANK)
        self.fleet.put("b", TANK)
        self.fleet.read("a", (0,))
        self.fleet.read("b", (0,))
        self.fleet.read("a", (2,))
        self.fleet.back()
        self.fleet.back()
        self.assertEqual(dict(self.fleet.verdicts())["a"], NEVER)
        self.assertEqual(dict(self.fleet.verdicts())["b"][0], ("full", "impossible"))

    def test_random_operations(self):
        chance = chance_from(112)
        for _ in range(20):
            self.fleet = Fleet()
            states = [state_of(self.fleet)]
            for _ in range(120):
                name = chance.choice("abcdefghij")
                call, arguments = chance.choice([
                    (self.fleet.put, (name, chance.choice([TANK, LAMP, STILL]))), (self.fleet.drop, (name,)),
                    (self.fleet.read, (name, (chance.randint(0, 3),))), (self.fleet.read, (name, (0,))), (self.fleet.back, ()),
                ])
                try:
                    told = call(*arguments)
                except (NotFound, NoFit, NameTaken, TooMany):
                    self.assertEqual(state_of(self.fleet), states[-1])
                    continue
                if call == self.fleet.back:
                    self.assertIs(told, len(states) > 1)
                    states = states[:-1] if told else states
                else:
                    states.append(state_of(self.fleet))
                self.assertEqual(state_of(self.fleet), states[-1])
                self.assertLessEqual(len(states) - 1, LIMIT)

    def test_results_can_be_changed(self):
        self.fleet.put("a", LAMP)
        told = self.fleet.read("a", (0,))
        before = state_of(self.fleet)
        told.clear()
        for made in state_of(self.fleet):
            made.clear()
        self.fleet.verdicts()[0][1].clear()
        self.assertEqual(state_of(self.fleet), before)

    def test_two_fleets_share_nothing(self):
        other = Fleet()
        self.fleet.put("a", LAMP)
        other.put("a", LAMP)
        self.fleet.read("a", (0,))
        self.fleet.put("b", LAMP)
        self.assertEqual(state_of(other), (["a"], [("a", [("lit", "impossible")])], []))
        self.assertIs(other.back(), True)
        self.assertIs(other.back(), False)
        self.assertEqual(self.fleet.names(), ["a", "b"])


if __name__ == "__main__":
    unittest.main()
