"""The data of the program, and what a source stands for: points [18] to [20], [23] and [24]."""

import unittest

from wardens.errors import SourceError
from wardens.names import compile_source, problems
from wardens.terms import is_true, value_of

PLANT = "part p { var x : 0..9; var y : 0..9; move m; } "
X, Y = ("var", 0), ("var", 1)
C, D = ("same", X, ("num", 1)), ("same", Y, ("num", 2))
TRUE = ("true",)
CC, DD = "x = 1", "y = 2"


def num(n):
    return ("num", n)


def term(text):
    """The term of a sensor."""
    (_, _, sensors), _, _ = compile_source(PLANT + f"const k = -4; sensor s = {text};")
    return sensors[0][1]


def guard(text):
    (_, parts, _), _, _ = compile_source(PLANT + f"part q {{ move m when {text}; }}")
    return parts[1][3][0][1]


def fact(text, before=""):
    return compile_source(PLANT + before + f"define goal = {text};")[1][-1][1]


def requirement(text, before=""):
    return compile_source(PLANT + before + f"require goal = {text};")[2][-1][1]


def holds(c):
    return ("holds", c)


def known(c):
    return ("fact", ("holds", c))


def never(a):
    return ("not", a)


class TestTerms(unittest.TestCase):
    def test_leaves(self):
        self.assertEqual(term("007"), num(7))
        self.assertEqual(term("k"), num(-4))
        self.assertEqual(term("x"), X)
        self.assertEqual(term("p.y"), Y)

    def test_operators(self):
        self.assertEqual(term("-x"), ("neg", X))
        self.assertEqual(term("-5"), ("neg", num(5)))
        self.assertEqual(term("--k"), ("neg", ("neg", num(-4))))
        self.assertEqual(term("x + y"), ("add", X, Y))
        self.assertEqual(term("x - y"), ("sub", X, Y))
        self.assertEqual(term("x * y"), ("mul", X, Y))
        self.assertEqual(term("min(x, y)"), ("min", X, Y))
        self.assertEqual(term("max(y, x)"), ("max", Y, X))
        self.assertEqual(term("x - y * -k + 1"), ("add", ("sub", X, ("mul", Y, ("neg", num(-4)))), num(1)))

    def test_values_of_terms(self):
        self.assertEqual(value_of(term("min(x, 3) * (y - k) - -2"), (7, 1)), 17)


class TestConditions(unittest.TestCase):
    def test_comparisons(self):
        self.assertEqual(guard("x < y"), ("less", X, Y))
        self.assertEqual(guard("x <= y"), never(("less", Y, X)))
        self.assertEqual(guard("x = y"), ("same", X, Y))
        self.assertEqual(guard("x != y"), never(("same", X, Y)))
        self.assertEqual(guard("x >= y"), never(("less", X, Y)))
        self.assertEqual(guard("x > y"), ("less", Y, X))

    def test_truth_of_comparisons(self):
        for a in (1, 2, 3):
            for b in (1, 2, 3):
                for sign, truth in (("<", a < b), ("<=", a <= b), ("=", a == b), ("!=", a != b),
                                    (">=", a >= b), (">", a > b)):
                    self.assertIs(is_true(guard(f"x {sign} y"), (a, b)), truth)

    def test_logic(self):
        self.assertEqual(guard("true"), TRUE)
        self.assertEqual(guard("false"), ("false",))
        self.assertEqual(guard("not x = 1"), never(C))
        self.assertEqual(guard("not not x = 1"), never(never(C)))
        self.assertEqual(guard(f"{CC} and {DD}"), ("and", C, D))
        self.assertEqual(guard(f"{CC} or {DD}"), ("or", C, D))
        self.assertEqual(guard(f"{CC} implies {DD}"), ("or", never(C), D))
        self.assertEqual(guard(f"true implies {CC} implies {DD}"), ("or", never(TRUE), ("or", never(C), D)))


class TestFacts(unittest.TestCase):
    def test_holds_stands_around_the_whole_condition(self):
        self.assertEqual(fact(CC), holds(C))
        self.assertEqual(fact(f"not ({CC} and {DD})"), holds(never(("and", C, D))))
        self.assertEqual(fact(f"{CC} implies {DD}"), holds(("or", never(C), D)))

    def test_operators(self):
        f = holds(C)
        self.assertEqual(fact(f"next {CC}"), ("next", f))
        self.assertEqual(fact(f"can {CC}"), ("can", f))
        self.assertEqual(fact(f"must {CC}"), ("must", f))
        self.assertEqual(fact(f"can[3] {CC}"), ("canin", 3, f))
        self.assertEqual(fact(f"must[0] {CC}"), ("mustin", 0, f))
        self.assertEqual(fact(f"must[1000] next {CC}"), ("mustin", 1000, ("next", f)))

    def test_all_next(self):
        self.assertEqual(fact(f"all next {CC}"), never(("next", holds(never(C)))))
        self.assertEqual(fact(f"all next next {CC}"), never(("next", never(("next", holds(C))))))
        self.assertEqual(fact(f"all next not {CC}"), never(("next", holds(never(never(C))))))
        self.assertEqual(fact(f"all next all next {CC}"),
                         never(("next", never(never(("next", holds(never(C))))))))

    def test_logic_of_conditions_and_facts(self):
        f = ("next", holds(D))
        self.assertEqual(fact(f"not next {DD}"), never(f))
        self.assertEqual(fact(f"{CC} and next {DD}"), ("and", holds(C), f))
        self.assertEqual(fact(f"(next {DD}) or {CC} and not {CC}"), ("or", f, holds(("and", C, never(C)))))
        self.assertEqual(fact(f"{CC} and {DD} and next {DD}"), ("and", holds(("and", C, D)), f))
        self.assertEqual(fact(f"{CC} and ({DD} and next {DD})"), ("and", holds(C), ("and", holds(D), f)))
        self.assertEqual(fact(f"{CC} implies next {DD}"), ("or", holds(never(C)), f))
        self.assertEqual(fact(f"(next {DD}) implies {CC}"), ("or", never(f), holds(C)))
        self.assertEqual(fact(f"(next {DD}) implies {CC} implies {DD}"), ("or", never(f), holds(("or", never(C), D))))


class TestRequirements(unittest.TestCase):
    def test_fact_stands_around_the_whole_fact(self):
        self.assertEqual(requirement(CC), known(C))
        self.assertEqual(requirement(f"next {CC}"), ("fact", ("next", holds(C))))
        self.assertEqual(requirement(f"{CC} and next {DD}"), ("fact", ("and", holds(C), ("next", holds(D)))))
        self.assertEqual(requirement(f"not next {DD}"), ("fact", never(("next", holds(D)))))

    def test_operators(self):
        self.assertEqual(requirement(f"before {CC}"), ("before", known(C)))
        self.assertEqual(requirement(f"once {CC}"), ("once", known(C)))
        self.assertEqual(requirement(f"once[0] {CC}"), ("oncein", 0, known(C)))
        self.assertEqual(requirement(f"once[12] before {CC}"), ("oncein", 12, ("before", known(C))))
        self.assertEqual(requirement(f"{CC} since {DD}"), ("since", known(C), known(D)))
        self.assertEqual(requirement(f"{CC} since {DD} since {CC}"),
                         ("since", ("since", known(C), known(D)), known(C)))
        self.assertEqual(requirement(f"(next {CC}) since once {DD}"),
                         ("since", ("fact", ("next", holds(C))), ("once", known(D))))

    def test_always(self):
        self.assertEqual(requirement(f"always {CC}"),
                         ("not", ("once", ("fact", ("holds", ("not", C))))))
        self.assertEqual(requirement(f"always[3] {CC}"), never(("oncein", 3, known(never(C)))))
        self.assertEqual(requirement(f"always next {CC}"),
                         never(("once", ("fact", never(("next", holds(C)))))))
        self.assertEqual(requirement(f"always[0] before {CC}"), never(("oncein", 0, never(("before", known(C))))))
        self.assertEqual(requirement(f"always always {CC}"),
                         never(("once", never(never(("once", known(never(C))))))))
        self.assertEqual(requirement(f"always ({CC} and next {DD})"),
                         never(("once", ("fact", never(("and", holds(C), ("next", holds(D))))))))

    def test_logic_of_all_kinds(self):
        once = ("once", known(D))
        self.assertEqual(requirement(f"not once {DD}"), never(once))
        self.assertEqual(requirement(f"{CC} and once {DD}"), ("and", known(C), once))
        self.assertEqual(requirement(f"{CC} and {DD} and once {DD}"), ("and", known(("and", C, D)), once))
        self.assertEqual(requirement(f"{CC} and next {DD} and once {DD}"),
                         ("and", ("fact", ("and", holds(C), ("next", holds(D)))), once))
        self.assertEqual(requirement(f"{CC} or ((next {DD}) or once {DD})"),
                         ("or", known(C), ("or", ("fact", ("next", holds(D))), once)))
        self.assertEqual(requirement(f"{CC} implies once {DD}"), ("or", known(never(C)), once))
        self.assertEqual(requirement(f"(once {DD}) implies {CC}"), ("or", never(once), known(C)))
        self.assertEqual(requirement(f"(next {CC}) implies once {DD}"),
                         ("or", ("fact", never(("next", holds(C)))), once))
        self.assertEqual(requirement(f"once ({CC} implies {DD})"), ("once", known(("or", never(C), D))))


class TestDefinitions(unittest.TestCase):
    def test_number(self):
        self.assertEqual(requirement("d * d = d", "define d = x + 1;"),
                         known(("same", ("mul", ("add", X, num(1)), ("add", X, num(1))), ("add", X, num(1)))))

    def test_condition(self):
        before = f"define d = {CC}; "
        self.assertEqual(fact("d", before), holds(C))
        self.assertEqual(fact(f"d and {DD}", before), holds(("and", C, D)))
        self.assertEqual(fact(f"d and next {DD}", before), ("and", holds(C), ("next", holds(D))))
        self.assertEqual(fact("all next d", before), never(("next", holds(never(C)))))
        self.assertEqual(requirement(f"d and once {DD}", before), ("and", known(C), ("once", known(D))))
        self.assertEqual(requirement("always d", before), never(("once", known(never(C)))))

    def test_fact(self):
        before = f"define d = next {CC}; "
        self.assertEqual(fact("next d", before), ("next", ("next", holds(C))))
        self.assertEqual(requirement("d", before), ("fact", ("next", holds(C))))
        self.assertEqual(requirement(f"d or {DD}", before), ("fact", ("or", ("next", holds(C)), holds(D))))
        self.assertEqual(requirement(f"d since {DD}", before), ("since", ("fact", ("next", holds(C))), known(D)))

    def test_requirement(self):
        before = f"define d = once {CC}; define e = not d; "
        self.assertEqual(requirement("before e", before), ("before", never(("once", known(C)))))

    def test_definition_of_definitions(self):
        before = f"define d = {CC}; define e = d or {DD}; define f = next e; "
        self.assertEqual(requirement("once f", before), ("once", ("fact", ("next", holds(("or", C, D))))))

    def test_names_stand_for_what_they_do_at_the_definition(self):
        text = "part p { var x : 0..9; move m; } define d = x = 1; define x = true; require r = d and x;"
        self.assertEqual(compile_source(text)[2][0][1], known(("and", C, TRUE)))
        text = "part p { var x : 0..9; move m when d; } const x = 5; "
        self.assertEqual(compile_source("define d = x = 1; " + text)[0][1][0][3][0][1], ("same", num(5), num(1)))

    def test_facts_of_the_source(self):
        text = PLANT + f"define a = x; define b = {CC}; define c = next b; define d = once b; define e = not c;"
        self.assertEqual(compile_source(text)[1], (
            ("b", holds(C)), ("c", ("next", holds(C))), ("e", never(("next", holds(C)))),
        ))


TANK = """
const full = 4;
part tank {
  var level : 0..full + 1 from 0..1;
  var alarm : {off, on} from off;
  move stay;
  move fill when valve.state = open and level < full do level := level + 1..level + 2;
  move ring when level >= full do alarm := on, level := full;
}
sensor gauge = level * 10 +- full lossy;
part valve {
  var state : {shut, open};
  move turn do state := shut..open;
}
sensor lamp = alarm;
define high = level > 3;
define worse = can[2] high;
define seen = once high;
part clock { move tick; }
require warned = always (seen implies alarm = on);
require calm = not worse;
sensor sum = level + state - full +- 0;
"""


class TestProjects(unittest.TestCase):
    def test_whole_plant(self):
        level, alarm, state = ("var", 0), ("var", 1), ("var", 2)
        high = ("less", num(3), level)
        up = ("add", level, num(1))
        plant = (
            (("tank.level", 0, 5, 0, 1), ("tank.alarm", 0, 1, 0, 0), ("valve.state", 0, 1, 0, 1)),
            (
                ("tank", 0, 2, (
                    ("stay", TRUE, ()),
                    ("fill", ("and", ("same", state, num(1)), ("less", level, num(4))),
                     ((0, up, ("add", level, num(2))),)),
                    ("ring", never(("less", level, num(4))), ((1, num(1), num(1)), (0, num(4), num(4)))),
                )),
                ("valve", 2, 1, (("turn", TRUE, ((2, num(0), num(1)),)),)),
                ("clock", 3, 0, (("tick", TRUE, ()),)),
            ),
            (
                ("gauge", ("mul", level, num(10)), 4, True),
                ("lamp", alarm, 0, False),
                ("sum", ("sub", ("add", level, state), num(4)), 0, False),
            ),
        )
        facts = (("high", holds(high)), ("worse", ("canin", 2, holds(high))))
        requirements = (
            ("warned", never(("once", never(("or", never(("once", known(high))), known(("same", alarm, num(1)))))))),
            ("calm", ("fact", never(("canin", 2, holds(high))))),
        )
        self.assertEqual(problems(TANK), [])
        self.assertEqual(compile_source(TANK), (plant, facts, requirements))

    def test_empty_source(self):
        self.assertEqual(compile_source(""), (((), (), ()), (), ()))

    def test_numbers_of_the_variables(self):
        text = ("part a { move m; } part b { var x : 0..1; move m; var y : 0..1; } part c { move m; } "
                "part d { var z : 0..1; move m do z := b.y; }")
        (variables, parts, _), _, _ = compile_source(text)
        self.assertEqual([row[0] for row in variables], ["b.x", "b.y", "d.z"])
        self.assertEqual([part[:3] for part in parts], [("a", 0, 0), ("b", 0, 2), ("c", 2, 0), ("d", 2, 1)])
        self.assertEqual(parts[3][3], (("m", TRUE, ((2, ("var", 1), ("var", 1)),)),))

    def test_order_of_settings(self):
        text = "part p { var x : 0..1; var y : 0..1; move m do y := 0, x := 1..y; }"
        (_, parts, _), _, _ = compile_source(text)
        self.assertEqual(parts[0][3][0][2], ((1, num(0), num(0)), (0, num(1), Y)))

    def test_sensors(self):
        text = PLANT + "sensor a = x; sensor b = x lossy; sensor c = x +- 7; sensor d = x +- 2 * 3 lossy;"
        self.assertEqual(compile_source(text)[0][2],
                         (("a", X, 0, False), ("b", X, 0, True), ("c", X, 7, False), ("d", X, 6, True)))
        for row in compile_source(text)[0][2]:
            self.assertIs(type(row[2]), int)
            self.assertIs(type(row[3]), bool)

    def test_requirements_in_the_order_of_the_source(self):
        text = "require b = true; define d = false; require a = d; define c = true;"
        self.assertEqual(compile_source(text), (
            ((), (), ()), (("d", holds(("false",))), ("c", holds(TRUE))),
            (("b", known(TRUE)), ("a", known(("false",)))),
        ))

    def test_tuples_throughout(self):
        def check(value):
            self.assertIn(type(value), (tuple, int, str, bool))
            if type(value) is tuple:
                for part in value:
                    check(part)
        check(compile_source(TANK))

    def test_great_nesting(self):
        lines, name = PLANT + "define e0 = x = 1;", "e0"
        for k in range(1, 17):
            lines += f"define e{k} = " + "not " * 12 + f"e{k - 1};"
            name = f"e{k}"
        goal = dict(compile_source(lines)[1])[name]
        depth = 0
        goal = goal[1]
        while goal[0] == "not":
            goal, depth = goal[1], depth + 1
        self.assertEqual((depth, goal), (192, C))


class TestSourceErrors(unittest.TestCase):
    def caught(self, text):
        with self.assertRaises(SourceError) as context:
            compile_source(text)
        error = context.exception
        return (error.line, error.column, error.what)

    def test_first_triple_of_problems(self):
        for text in ("const", "const k = 1", "!", "const k = a;", "const k = 1;\n const k = 2; const j = a;",
                     "require r = x; \n part p { var x : 1..0; }", "part p { }", "const k = " + "-" * 13):
            self.assertEqual(self.caught(text), problems(text)[0])

    def test_first_item_counts_not_the_first_found(self):
        text = "require r = a;\nconst k = b;"
        self.assertEqual(self.caught(text), (1, 1, "unknown name: a"))


if __name__ == "__main__":
    unittest.main()
