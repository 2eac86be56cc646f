"""Doors: point [62], and the interface of wardens/doors.py."""

import unittest

from samples import TANK
from wardens.delays import delay, hidden
from wardens.doors import build_text, delay_text, differ_text, example_text, hidden_text, judge_text, unfold_text
from wardens.errors import NotFound, SourceError, TooMany
from wardens.judging import judge
from wardens.monitors import build
from wardens.names import compile_source, problems
from wardens.readings import possible_readings
from wardens.tracking import shortest_run, track
from wardens.unfolding import unfold

MORE = TANK + "require over = level > 3; require wet = next level = 0 and level > 0;"
FAULTY = "part p { var x : 0..1 from 0; move stay; } require r = x + = 1; require s = y;"


def requirement_in(source, name):
    plant, _, requirements = compile_source(source)
    return plant, dict(requirements)[name]


def cloud(size, sensor="", requirement="x < 0"):
    """So many states, each of which leads to all of them."""
    return (f"part p {{ var x : 0..{size - 1}; move any do x := 0..{size - 1}; }} {sensor}"
            f" require r = {requirement}; require s = {requirement};")


def chain(size, requirement="x < 0", sensor="sensor seen = 0;"):
    """So many states one behind the other, the last of which stays."""
    return (f"part p {{ var x : 0..{size - 1} from 0; move go do x := x + 1; move end when x = {size - 1}; }} {sensor}"
            f" require r = {requirement}; require s = {requirement};")


def named_doors(source, name):
    """Calls of all doors that take one requirement."""
    return [
        lambda: judge_text(source, name, [(0,)]), lambda: build_text(source, name), lambda: delay_text(source, name),
        lambda: hidden_text(source, name, 1), lambda: example_text(source, name),
        lambda: example_text(source, name, met=False), lambda: differ_text(source, name, name),
    ]


class TestAnswers(unittest.TestCase):
    def tracked(self, name, once=False):
        plant, requirement = requirement_in(MORE, name)
        return plant, track(unfold(plant, 200), ("once", requirement) if once else requirement, 400)

    def test_unfold(self):
        self.assertEqual(unfold_text(MORE), (((0,), (1,), (2,), (3,)), (0,), ((1, 0), (2, 0), (3, 0), (0,))))
        self.assertEqual(unfold_text(""), (((),), (0,), ((0,),)))

    def test_judge(self):
        for name in ("full", "was", "calm", "over", "wet"):
            plant, tracked = self.tracked(name)
            for row in [[], [(0,)], [(0,), (2,)], [(0,), (2,), (3,), (4,)], [(9,)], [()], ([1], (1,))]:
                self.assertEqual(judge_text(MORE, name, row), judge(plant, tracked, row))
        self.assertEqual(judge_text(MORE, "full", [(0,), (2,), (3,), (4,)]), "sure")
        self.assertEqual(judge_text(MORE, "calm", [(0,)]), "sure")

    def test_build(self):
        for name in ("full", "was", "calm", "over", "wet"):
            plant, tracked = self.tracked(name)
            readings = possible_readings(plant, unfold(plant, 9), 9)
            self.assertEqual(readings, [(-1,), (0,), (1,), (2,), (3,), (4,)])
            self.assertEqual(build_text(MORE, name), build(plant, tracked, readings, 200))

    def test_delay_and_hidden(self):
        for name in ("full", "was", "calm", "over", "wet"):
            plant, tracked = self.tracked(name, once=True)
            self.assertEqual(delay_text(MORE, name), delay(plant, tracked, 2000))
            for ticks in (0, 1, 2, 100):
                self.assertEqual(hidden_text(MORE, name, ticks), hidden(plant, tracked, ticks, 2000))
        self.assertEqual([delay_text(MORE, name) for name in ("full", "over", "calm")], [None, 0, 0])
        self.assertIsNone(hidden_text(MORE, "over", 0))
        self.assertEqual(len(hidden_text(MORE, "full", 2)), 3)

    def test_example(self):
        self.assertEqual(example_text(MORE, "full"), [(0,), (1,), (2,), (3,)])
        self.assertEqual(example_text(MORE, "full", met=True), [(0,), (1,), (2,), (3,)])
        self.assertEqual(example_text(MORE, "full", met=False), [(0,)])
        self.assertEqual(example_text(MORE, "calm"), [(0,)])
        self.assertEqual(example_text(MORE, "calm", met=False), [(0,), (1,), (2,)])
        self.assertEqual(example_text(MORE, "wet"), [(0,), (1,)])
        self.assertIsNone(example_text(MORE, "over"))
        self.assertEqual(example_text(MORE, "over", met=False), [(0,)])
        for name in ("full", "was", "calm", "over", "wet"):
            _, tracked = self.tracked(name)
            for met in (True, False):
                self.assertEqual(example_text(MORE, name, met=met), shortest_run(tracked, met))

    def test_met_is_passed_by_keyword_only(self):
        with self.assertRaises(TypeError):
            example_text(MORE, "full", False)

    def test_differ(self):
        self.assertEqual(differ_text(MORE, "full", "was"), [(0,), (1,), (2,), (3,), (0,)])
        self.assertEqual(differ_text(MORE, "was", "full"), [(0,), (1,), (2,), (3,), (0,)])
        self.assertEqual(differ_text(MORE, "full", "over"), [(0,), (1,), (2,), (3,)])
        self.assertEqual(differ_text(MORE, "calm", "over"), [(0,)])
        self.assertEqual(differ_text(MORE, "calm", "wet"), [(0,)])
        self.assertIsNone(differ_text(MORE, "full", "full"))

    def test_differ_none_for_equal_requirements(self):
        source = MORE + "require late = not always level < 3; require dry = not once level > 1;"
        self.assertIsNone(differ_text(source, "late", "was"))
        self.assertIsNone(differ_text(source, "calm", "dry"))

    def test_differ_takes_the_first_of_the_shortest_runs(self):
        source = ("part p { var x : 0..3 from 0; move a when x = 0 do x := 2; move b when x = 0 do x := 1; move c do x := 3; }"
                  " require r = x = 1; require s = x = 2; require t = x = 3;")
        self.assertEqual(differ_text(source, "r", "s"), [(0,), (2,)])
        self.assertEqual(differ_text(source, "r", "t"), [(0,), (1,)])

    def test_results_are_new(self):
        for ask in (lambda: example_text(MORE, "full"), lambda: differ_text(MORE, "full", "was"),
                    lambda: hidden_text(MORE, "full", 1)[0]):
            before = list(ask())
            ask().clear()
            self.assertEqual(ask(), before)


class TestSourceErrors(unittest.TestCase):
    def test_first_problem(self):
        for source in (FAULTY, FAULTY.replace("+ =", "=").replace("s = y", "s = x + y = 1"), "require r = 1 ?",
                       "const a = 1; const a = 2; require r = b;"):
            line, column, what = problems(source)[0]
            asked = named_doors(source, "nothing") + [lambda: unfold_text(source), lambda: differ_text(source, "q", "r")]
            for ask in asked:
                with self.assertRaises(SourceError) as caught:
                    ask()
                error = caught.exception
                self.assertEqual((error.line, error.column, error.what), (line, column, what))


class TestUnknownRequirements(unittest.TestCase):
    def not_found(self, ask, name):
        with self.assertRaises(NotFound) as caught:
            ask()
        self.assertEqual((caught.exception.kind, caught.exception.name), ("requirement", name))

    def test_each_door(self):
        for name in ("nothing", "", "tank", "gauge", "level", "Full"):
            for ask in named_doors(MORE, name):
                self.not_found(ask, name)

    def test_definitions_and_constants_are_no_requirements(self):
        source = MORE + "define low = level < 1; const c = 1;"
        for name in ("low", "c"):
            for ask in named_doors(source, name):
                self.not_found(ask, name)

    def test_first_name_before_the_second_one(self):
        self.not_found(lambda: differ_text(MORE, "nothing", "none"), "nothing")
        self.not_found(lambda: differ_text(MORE, "none", "nothing"), "none")
        self.not_found(lambda: differ_text(MORE, "full", "nothing"), "nothing")
        self.not_found(lambda: differ_text(MORE, "nothing", "full"), "nothing")

    def test_before_all_limits(self):
        for ask in named_doors(cloud(201), "nothing"):
            self.not_found(ask, "nothing")
        self.not_found(lambda: differ_text(cloud(201), "r", "nothing"), "nothing")

    def test_source_without_requirements(self):
        for ask in named_doors("", "r"):
            self.not_found(ask, "r")


class TestLimits(unittest.TestCase):
    def too_many(self, ask, what):
        with self.assertRaises(TooMany) as caught:
            ask()
        self.assertEqual(caught.exception.what, what)

    def test_states(self):
        source = chain(200)
        self.assertEqual(len(unfold_text(source)[0]), 200)
        self.assertEqual(judge_text(source, "r", [(0,)]), "never")
        self.assertIsNone(example_text(source, "r"))
        source = chain(201)
        for ask in named_doors(source, "r") + [lambda: unfold_text(source)]:
            self.too_many(ask, "states")

    def test_states_first(self):
        # Too many states, readings, tracked states, sets and twins.
        source = cloud(300, requirement="once[900] x = 1", sensor="sensor seen = x +- 500;")
        for ask in named_doors(source, "r") + [lambda: unfold_text(source)]:
            self.too_many(ask, "states")

    def test_readings(self):
        source = chain(5, sensor="sensor seen = 0 +- 99 lossy;")
        self.assertEqual(len(build_text(source, "r")[0]), 200)
        source = chain(5, sensor="sensor seen = 0 +- 100;")
        self.too_many(lambda: build_text(source, "r"), "readings")
        self.assertEqual(judge_text(source, "r", [(7,)]), "never")

    def test_readings_before_pairs(self):
        source = cloud(2, requirement="once[900] x = 1", sensor="sensor seen = x +- 500;")
        self.too_many(lambda: build_text(source, "r"), "readings")
        self.too_many(lambda: judge_text(source, "r", [(0,)]), "pairs")

    def test_pairs(self):
        # So many tracked states of R: one at x = 1, and k + 1 at x = 0.
        source = cloud(2, requirement="once[398] x = 1", sensor="sensor seen = x;")
        plant, requirement = requirement_in(source, "r")
        self.assertEqual(len(track(unfold(plant, 2), requirement, 400)[0]), 400)
        self.assertEqual(judge_text(source, "r", [(1,)]), "sure")
        self.assertEqual(example_text(source, "r"), [(1,)])
        self.assertEqual(example_text(source, "r", met=False), [(0,)])
        self.assertIsNone(differ_text(source, "r", "s"))
        source = source.replace("398", "399")
        for ask in named_doors(source, "r"):
            self.too_many(ask, "pairs")

    def test_pairs_of_once(self):
        # That R has not been met yet is one tracked state more.
        source = cloud(2, requirement="once[397] x = 1", sensor="sensor seen = x;")
        self.assertEqual(delay_text(source, "r"), 0)
        self.assertIsNone(hidden_text(source, "r", 1))
        source = source.replace("397", "398")
        self.too_many(lambda: delay_text(source, "r"), "pairs")
        self.too_many(lambda: hidden_text(source, "r", 1), "pairs")

    def test_pairs_of_two_requirements(self):
        # Both together have to be remembered, of each alone there are few.
        source = cloud(2, requirement="once[30] x = 1").replace("s = once[30] x = 1", "s = once[30] next next x = x")
        self.assertEqual(differ_text(source, "r", "s"), [(0,)])
        source = cloud(3, requirement="once[30] x = 1").replace("s = once[30] x = 1", "s = once[30] x = 2")
        self.assertEqual(example_text(source, "r"), [(1,)])
        self.assertEqual(example_text(source, "s"), [(2,)])
        self.too_many(lambda: differ_text(source, "r", "s"), "pairs")
        self.too_many(lambda: differ_text(source, "s", "r"), "pairs")

    def test_pairs_before_sets_and_twins(self):
        source = chain(200, requirement="once[900] x = 1 and once[900] x = 1")
        self.too_many(lambda: build_text(source, "r"), "pairs")
        source = cloud(50, requirement="once[900] x = 1")
        self.too_many(lambda: delay_text(source, "r"), "pairs")
        self.too_many(lambda: hidden_text(source, "r", 1), "pairs")

    def test_sets(self):
        self.assertEqual(len(build_text(chain(198, "x = 197"), "r")[2]), 199)
        # The beginning, and one set of one state for each tick.
        self.assertEqual(len(build_text(chain(199, "x = 198"), "r")[2]), 200)
        self.too_many(lambda: build_text(chain(200, "x = 199"), "r"), "sets")

    def test_pairs_before_sets_and_twins(self):
        source = chain(200, requirement="once[900] x = 1")
        for ask in named_doors(source, "r"):
            self.too_many(ask, "pairs")

    def test_twins(self):
        # 44 * 44 and 8 * 8 pairs that look alike are 2000; one more state looks like no other one.
        sensor = "sensor seen = min(max(x - 43, 0), 1) + max(x - 51, 0);"
        self.assertEqual(delay_text(cloud(52, sensor), "r"), 0)
        self.assertIsNone(hidden_text(cloud(52, sensor), "r", 1))
        self.too_many(lambda: delay_text(cloud(53, sensor), "r"), "twins")
        self.too_many(lambda: hidden_text(cloud(53, sensor), "r", 1), "twins")
        self.assertEqual(judge_text(cloud(53, sensor), "r", [(2,)]), "never")


if __name__ == "__main__":
    unittest.main()
