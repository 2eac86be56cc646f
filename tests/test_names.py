"""What names stand for, kinds, and the problems of expressions: points [11] to [15]."""

import unittest

from wardens.names import compile_source, problems

PLANT = "part p { var x : 0..9; move m; }"


def whats(text):
    return [what for _, _, what in problems(text)]


def project(text):
    return compile_source(text)


def fact(text, name="d"):
    """The fact of a definition."""
    return dict(project(text)[1])[name]


def same(a, b):
    return ("holds", ("same", a, b))


def num(n):
    return ("num", n)


def var(v):
    return ("var", v)


class TestWhatNamesStandFor(unittest.TestCase):
    """Point [12]."""

    def guard(self, text, part=0):
        return project(text)[0][1][part][3][0][1]

    def test_variable_of_the_own_part_comes_first(self):
        text = "const x = 5; part p { var x : 0..9; move m when x = 2; } part q { var x : 0..9; move m when x = 3; }"
        self.assertEqual(self.guard(text), ("same", var(0), num(2)))
        self.assertEqual(self.guard(text, 1), ("same", var(1), num(3)))
        text = "define x = true; part p { move m when x = 2; var x : 0..9; }"
        self.assertEqual(self.guard(text), ("same", var(0), num(2)))

    def test_constant_comes_before_a_variable_elsewhere(self):
        for text in ("const x = 5; " + PLANT + " define d = x = 1;", PLANT + " define d = x = 1; const x = 5;"):
            self.assertEqual(fact(text), same(num(5), num(1)))
        self.assertEqual(
            self.guard("part q { move m when x = 1; } part p { var x : 0..9; move m; } const x = 5;"),
            ("same", num(5), num(1)),
        )

    def test_named_values_are_constants(self):
        text = "define d = idle = busy; part p { var m : {idle, busy, idler}; move m when idler = 1; }"
        self.assertEqual(fact(text), same(num(0), num(1)))
        self.assertEqual(self.guard(text), ("same", num(2), num(1)))

    def test_definition_before_comes_before_a_variable(self):
        text = "define x = true; " + PLANT + " define d = x;"
        self.assertEqual(fact(text), ("holds", ("true",)))

    def test_definition_behind_does_not_count(self):
        self.assertEqual(fact(PLANT + " define d = x = 1; define x = true;"), same(var(0), num(1)))
        self.assertEqual(whats("define d = e; define e = true;"), ["unknown name: e"])
        self.assertEqual(whats("define d = d;"), ["unknown name: d"])
        self.assertEqual(fact(PLANT + " define x = x = 1;", "x"), same(var(0), num(1)))
        self.assertEqual(whats("part p { move m when e; } define e = true;"), ["unknown name: e"])
        self.assertEqual(whats("define e = true; part p { move m when e; }"), [])

    def test_only_variable_of_this_name(self):
        for text in (PLANT + " define d = x = 1;", "define d = x = 1; " + PLANT):
            self.assertEqual(fact(text), same(var(0), num(1)))
        self.assertEqual(
            self.guard("part q { var y : 0..1; move m when x = y; } part p { var x : 0..9; move m; }"),
            ("same", var(1), var(0)),
        )

    def test_ambiguous_names(self):
        two = "part p { var x : 0..1; move m; } part q { var x : 0..1; move m; }"
        self.assertEqual(whats(two + " require r = x = 1;"), ["ambiguous name: x"])
        self.assertEqual(whats("require r = x = 1; " + two), ["ambiguous name: x"])
        self.assertEqual(whats(two + " part s { move m when x = 1; }"), ["ambiguous name: x"])
        self.assertEqual(whats(two + " require r = x = 1; const x = 1;"), [])
        self.assertEqual(whats("define x = true; " + two + " require r = x;"), [])
        self.assertEqual(whats(two + " require r = x = 1; define x = true;"), ["ambiguous name: x"])
        self.assertEqual(whats(two + " require r = p.x = q.x;"), [])
        self.assertEqual(whats(two.replace("move m", "move m when x = 1")), [])

    def test_unknown_names(self):
        text = ("part p { var x : 0..1; move go; } sensor s = x; require q = true; "
                "define d = {}; ")
        for name in ("p", "go", "s", "q", "nothing", "d"):
            self.assertEqual(whats(text.replace("{}", name)), [f"unknown name: {name}"])

    def test_dotted_names(self):
        text = "define d = p.x = q.x; part q { var x : 0..1; move m; } " + PLANT
        self.assertEqual(fact(text), same(var(1), var(0)))
        self.assertEqual(self.guard("part p { var x : 0..1; var y : 0..1; move m when p.y = 0; }"),
                         ("same", var(1), num(0)))
        self.assertEqual(fact("const x = 1; " + PLANT + " define d = p.x = x;"), same(var(0), num(1)))

    def test_unknown_dotted_names(self):
        text = "const k = 1; part p { var x : {idle}; move m; } sensor s = p.x; define e = true; require r = "
        for name in ("p.y", "q.x", "k.x", "p.idle", "p.m", "s.x", "p.p", "e.x", "x.p"):
            self.assertEqual(whats(text + name + " = 0;"), [f"unknown name: {name}"])

    def test_part_with_a_problem_of_declaration_has_no_variables(self):
        text = "part p { var x : 1..0; var m : {idle}; move m; } require r = {} = 0;"
        for name in ("x", "p.x", "idle"):
            self.assertEqual(whats(text.replace("{}", name)), ["empty range: x", f"unknown name: {name}"])

    def test_part_with_another_problem_has_its_variables(self):
        text = "part p { var x : 0..1; var m : {idle}; } require r = x = p.x and m = idle;"
        self.assertEqual(whats(text), ["no moves: p"])

    def test_definition_with_a_problem_stands_for_nothing(self):
        self.assertEqual(whats("define d = nothing; require r = d;"), ["unknown name: nothing", "unknown name: d"])
        self.assertEqual(whats("define x = nothing; " + PLANT + " require r = x = 1;"), ["unknown name: nothing"])
        self.assertEqual(whats("const d = 1; define d = true; require r = d = 1;"), ["declared twice: d"])

    def test_constant_with_a_problem_stands_for_nothing(self):
        self.assertEqual(whats("const k = true; require r = k = 1;"), ["expected a number", "unknown name: k"])

    def test_variables_and_moves_may_have_names_of_something_else(self):
        text = ("const k = 1; part p { var p : 0..1; var k : 0..1; var s : 0..1; var a : {b}; move p; move k; "
                "move a; move s; } part q { var p : 0..1; move p; } sensor s = 1; require a = q.p = p.p;")
        self.assertEqual(whats(text), [])

    def test_expressions_of_sensors_and_requirements(self):
        text = "sensor s = x + k +- k; require r = x = k; const k = 4; " + PLANT
        (_, _, sensors), _, requirements = project(text)
        self.assertEqual(sensors, (("s", ("add", var(0), num(4)), 4, False),))
        self.assertEqual(requirements, (("r", ("fact", same(var(0), num(4)))),))


class TestWhereOnlyConstantsCount(unittest.TestCase):
    """Point [13]: the places are the value of a constant, ranges, first values, and the error of a sensor."""

    places = (
        "const k = {0};", "part t {{ var v : {0}..9999999; move m; }}", "part t {{ var v : -9999999..{0}; move m; }}",
        "part t {{ var v : -9..9 from {0}; move m; }}", "part t {{ var v : -9..9 from {0}..9; move m; }}",
        "part t {{ var v : -9..9 from -9..{0}; move m; }}", "part t {{ var v : {{u, w, z}} from {0}; move m; }}",
        "part t {{ var v : {{u, w, z}} from u..{0}; move m; }}",
    )
    error = "sensor t = 1 +- {0};"

    def test_constants_of_the_items_before(self):
        for place in self.places + (self.error,):
            for before in ("const n = 1;", "part q { var m : {l, n}; move m; }"):
                self.assertEqual(whats(before + place.format("n")), [], place)

    def test_constants_behind_count_in_errors_only(self):
        for behind in ("const n = 1;", "part q { var m : {l, n}; move m; }"):
            for place in self.places:
                self.assertEqual(whats(place.format("n") + behind), ["unknown name: n"], place)
            self.assertEqual(whats(self.error.format("n") + behind), [])

    def test_everything_else_is_unknown(self):
        before = "part q { var y : 0..1; var w2 : {e}; move m; } define d = 1; sensor s = 1; require r = true; "
        for place in self.places + (self.error,):
            for name in ("y", "d", "s", "r", "q", "m", "nothing", "q.y", "q.e", "t.v", "nothing.x"):
                self.assertEqual(whats(before + place.format(name)), [f"unknown name: {name}"], place)

    def test_own_name_is_unknown(self):
        self.assertEqual(whats("const k = k;"), ["unknown name: k"])
        self.assertEqual(whats("part p { var x : 0..x; move m; }"), ["unknown name: x"])
        self.assertEqual(whats("part p { var x : 0..1 from x; move m; }"), ["unknown name: x"])
        self.assertEqual(whats("part p { var x : 0..1 from p.x; move m; }"), ["unknown name: p.x"])

    def test_named_values_of_variables_before_in_the_same_part(self):
        text = "part p {{ var m : {{a, b}}; var v : {0}..{1} from {2}; move m; }}"
        self.assertEqual(whats(text.format("a", "b", "b")), [])
        text = "part p {{ var v : {0}..{1} from {2}; var m : {{a, b}}; move m; }}"
        for words in (("a", "1", "1"), ("0", "b", "1"), ("0", "1", "b")):
            name = [word for word in words if word in "ab"][0]
            self.assertEqual(whats(text.format(*words)), [f"unknown name: {name}"])
        text = "part p { var m : {a, b}; var n : {c, e} from b; var o : {f, g} from c..g; move m; }"
        self.assertEqual(whats(text), [])

    def test_own_named_values_in_first_values(self):
        self.assertEqual(whats("part p { var m : {a, b, c} from b; move m; }"), [])
        self.assertEqual(whats("part p { var m : {a, b, c} from a..c; move m; }"), [])
        self.assertEqual(whats("part p { var m : {a, b} from c; var n : {c}; move m; }"), ["unknown name: c"])

    def test_constant_with_the_name_of_a_variable(self):
        text = "const x = 2; part p { var x : 0..x + 1 from x; var y : x..x; move m; }"
        variables = project(text)[0][0]
        self.assertEqual(variables, (("p.x", 0, 3, 2, 2), ("p.y", 2, 2, 2, 2)))

    def test_values(self):
        text = "const a = 2 * 3 - 1; const b = -min(a, 7) + max(a, 7); const c = (a - b) * -a; sensor s = c +- a * 3;"
        self.assertEqual(project(text)[0][2], (("s", num(-15), 15, False),))


SAMPLES = {"number": "x", "condition": "x = 1", "fact": "next true", "requirement": "before true"}
ORDER = ("number", "condition", "fact", "requirement")
TIMES = ("", "[0]", "[1000]")


def kind_of(expression):
    """The kind of an expression, or its problem, told from where it may stand."""
    found = whats(PLANT + f" define d = {expression};")
    if found:
        return found[0]
    if whats(PLANT + f" require d = {expression};"):
        return "number"
    if not whats(PLANT.replace("move m", f"move m when {expression}")):
        return "condition"
    return "requirement" if whats(PLANT + f" require d = next ({expression});") else "fact"


class TestKinds(unittest.TestCase):
    """Point [14]."""

    def expect(self, form, kinds, expected):
        expression = form.format(*[f"({SAMPLES[kind]})" for kind in kinds])
        self.assertEqual(kind_of(expression), expected, expression)

    def pairs(self):
        return [(one, other) for one in ORDER for other in ORDER]

    def test_leaves(self):
        for text in ("3", "x", "p.x"):
            self.assertEqual(kind_of(text), "number")
        for text in ("true", "false"):
            self.assertEqual(kind_of(text), "condition")

    def test_samples(self):
        for kind, text in SAMPLES.items():
            self.assertEqual(kind_of(text), kind)

    def test_numbers(self):
        for form in ("{} + {}", "{} - {}", "{} * {}", "min({}, {})", "max({}, {})"):
            for kinds in self.pairs():
                self.expect(form, kinds, "number" if kinds == ("number", "number") else "expected a number")
        for kind in ORDER:
            self.expect("-{}", (kind,), "number" if kind == "number" else "expected a number")

    def test_comparisons(self):
        for sign in ("<", "<=", "=", "!=", ">=", ">"):
            for kinds in self.pairs():
                expected = "condition" if kinds == ("number", "number") else "expected a number"
                self.expect("{} " + sign + " {}", kinds, expected)

    def test_logic(self):
        for word in ("and", "or", "implies"):
            for kinds in self.pairs():
                expected = "expected a condition" if "number" in kinds else max(kinds, key=ORDER.index)
                self.expect("{} " + word + " {}", kinds, expected)
        for kind in ORDER:
            self.expect("not {}", (kind,), "expected a condition" if kind == "number" else kind)

    def test_facts(self):
        expected = {"number": "expected a condition", "condition": "fact", "fact": "fact",
                    "requirement": "what was before cannot stand here"}
        fronts = ["next", "all next"] + [word + time for word in ("can", "must") for time in TIMES]
        for front in fronts:
            for kind in ORDER:
                self.expect(front + " {}", (kind,), expected[kind])

    def test_requirements(self):
        fronts = ["before"] + [word + time for word in ("once", "always") for time in TIMES]
        for front in fronts:
            for kind in ORDER:
                self.expect(front + " {}", (kind,), "expected a condition" if kind == "number" else "requirement")
        for kinds in self.pairs():
            self.expect("{} since {}", kinds, "expected a condition" if "number" in kinds else "requirement")

    def test_definitions_have_the_kind_of_their_expression(self):
        for kind, text in SAMPLES.items():
            before = PLANT + f" define e = {text}; "
            self.assertEqual(whats(before + "require r = e;"), ["expected a condition"] if kind == "number" else [])
            self.assertEqual(whats(before + "require r = e + 1 = 1;"), [] if kind == "number" else ["expected a number"])
            self.assertEqual(whats(before + "part q { move m when e; }"),
                             [] if kind == "condition" else ["expected a condition about now"])
            expected = {"number": ["expected a condition"], "requirement": ["what was before cannot stand here"]}
            self.assertEqual(whats(before + "require r = next e;"), expected.get(kind, []))


def told(expression):
    """The problems of a requirement with this expression."""
    return whats(PLANT + f" require r = {expression};")


class TestOrderOfProblems(unittest.TestCase):
    """Point [15]: operands before their operators, left operands first."""

    def test_names_in_their_order(self):
        self.assertEqual(told("a + b < c"), ["unknown name: a"])
        self.assertEqual(told("1 + b < c"), ["unknown name: b"])
        self.assertEqual(told("1 + 2 < c"), ["unknown name: c"])
        self.assertEqual(told("min(p.a, b) = c"), ["unknown name: p.a"])
        self.assertEqual(told("min(1, b) = c"), ["unknown name: b"])
        self.assertEqual(told("true since not b"), ["unknown name: b"])
        self.assertEqual(told("true implies b implies c"), ["unknown name: b"])

    def test_operands_before_operators(self):
        self.assertEqual(told("true + a"), ["unknown name: a"])
        self.assertEqual(told("1 and a"), ["unknown name: a"])
        self.assertEqual(told("1 and (true + 1 = 2)"), ["expected a number"])
        self.assertEqual(told("true + (next before true) = 1"), ["what was before cannot stand here"])
        self.assertEqual(told("once[1001] a"), ["unknown name: a"])
        self.assertEqual(told("once[1001] (1 and true)"), ["expected a condition"])
        self.assertEqual(told("(1 and true) and a"), ["expected a condition"])
        self.assertEqual(told("next 1 and a"), ["expected a condition"])
        self.assertEqual(told("-true = a"), ["expected a number"])

    def test_left_operand_before_the_right_one(self):
        self.assertEqual(told("next (1 and before true)"), ["expected a condition"])
        self.assertEqual(told("(next before true) and next 1"), ["what was before cannot stand here"])
        self.assertEqual(told("(next 1) and next before true"), ["expected a condition"])
        self.assertEqual(told("(1 or true) = (true + 1)"), ["expected a condition"])

    def test_ticks(self):
        for word in ("can", "must", "once", "always"):
            self.assertEqual(told(f"{word}[1000] true"), [])
            self.assertEqual(told(f"{word}[0] true"), [])
            self.assertEqual(told(f"{word}[1001] true"), ["too many ticks"])
            self.assertEqual(told(f"{word}[9999999] true"), ["too many ticks"])
            self.assertEqual(told(f"{word}[1001] 1"), ["too many ticks"])
        self.assertEqual(told("can[1001] before true"), ["too many ticks"])
        self.assertEqual(told("can[1000] before true"), ["what was before cannot stand here"])
        self.assertEqual(told("must[1000] 1"), ["expected a condition"])

    def test_walk_comes_before_size_and_bounds(self):
        great = "(9999999 * 9999999 = 1)"
        self.assertEqual(told(great), ["a number can get too great"])
        self.assertEqual(told(great + " and a"), ["unknown name: a"])
        self.assertEqual(told(great + " and 1"), ["expected a condition"])
        large = "(" + " or ".join(["x + 1 < 2 * 3"] * 26) + ")"
        self.assertEqual(told(large), ["too large"])
        self.assertEqual(told(large + " and 1"), ["expected a condition"])
        self.assertEqual(told(large + " and a"), ["unknown name: a"])
        self.assertEqual(told(great + " and " + large), ["too large"])

    def test_kind_comes_behind_size_and_bounds(self):
        self.assertEqual(told("9999999 * 9999999"), ["a number can get too great"])
        self.assertEqual(whats("const k = (9999999 * 9999999 = 1);"), ["a number can get too great"])
        self.assertEqual(whats("const k = (1 = 1);"), ["expected a number"])


class Sizes:
    """Definitions of numbers of any size: size_7 is the name of one of size 7."""

    def __init__(self):
        self.lines = []
        self.known = {}

    def number(self, size):
        if size not in self.known:
            if size == 1:
                text = "1"
            elif size % 2 == 0:
                text = "-" + self.number(size - 1)
            else:
                text = f"{self.number(size // 2)} - {self.number(size // 2)}"
            self.known[size] = f"size_{size}"
            self.lines.append(f"define size_{size} = {text};")
        return self.known[size]


class TestSizes(unittest.TestCase):
    """Point [15]: the size at 200 and at 201."""

    def check(self, form, counted):
        """The form, with a number in place of _, counts as much as said besides this number."""
        for size, problem in ((200, []), (201, ["too large"])):
            sizes = Sizes()
            text = form.replace("_", sizes.number(size - counted))
            lines = PLANT + " const k = 1; define truth = true; " + " ".join(sizes.lines)
            self.assertEqual(whats(f"{lines} define d = {text};"), problem, form)

    def test_leaves(self):
        for leaf in ("1", "k", "x", "p.x", "9999999"):
            self.check(f"{leaf} + _", 2)
        for leaf in ("true", "false", "truth"):
            self.check(f"{leaf} and _ < 1", 4)

    def test_number_operators(self):
        self.check("-_", 1)
        for form in ("_ + 1", "1 - _", "_ * 1", "min(_, 1)", "max(1, _)"):
            self.check(form, 2)

    def test_comparisons(self):
        for sign, count in (("<", 1), ("=", 1), (">", 1), ("<=", 2), ("!=", 2), (">=", 2)):
            self.check(f"_ {sign} 1", count + 1)
            self.check(f"1 {sign} _", count + 1)

    def test_logic(self):
        self.check("not _ < 1", 3)
        for word, count in (("and", 1), ("or", 1), ("since", 1), ("implies", 2)):
            self.check(f"_ < 1 {word} true", 3 + count)
            self.check(f"true {word} _ < 1", 3 + count)

    def test_operators_in_front(self):
        counts = {"not": 1, "next": 1, "before": 1, "all next": 3, "can": 1, "must": 1, "once": 1, "always": 3}
        for word, count in counts.items():
            self.check(f"{word} _ < 1", 2 + count)
            if word in ("can", "must", "once", "always"):
                self.check(f"{word}[0] _ < 1", 2 + count)
                self.check(f"{word}[1000] _ < 1", 2 + count)

    def test_parentheses_do_not_count(self):
        self.check("((((_)))) + (1)", 2)

    def test_definition_counts_the_size_of_its_expression(self):
        for size, problem in ((100, []), (101, ["too large"])):
            sizes = Sizes()
            one, other = sizes.number(size), sizes.number(99)
            self.assertEqual(whats(" ".join(sizes.lines) + f" define d = {one} + {other};"), problem)

    def test_large_expressions_without_definitions(self):
        row = "(1" + " + 1" * 24 + ")"
        four = " * ".join([row] * 4)
        self.assertEqual(whats(f"const k = {four};"), [])
        self.assertEqual(whats(f"const k = -({four});"), [])
        self.assertEqual(whats(f"const k = -({four});".replace("(1 ", "(-1 ", 1)), ["too large"])

    def test_constants_count_1_however_large_their_expression(self):
        row = "(1" + " + 1" * 24 + ")"
        text = f"const k = {row} + {row} + {row} + {row}; const j = k + k + k;"
        self.assertEqual(whats(text), [])

    def test_in_guards_changes_sensors_and_requirements(self):
        sizes = Sizes()
        fits, large = sizes.number(200), sizes.number(199)
        lines = " ".join(sizes.lines)
        for text in ("part p {{ var x : -99..99; move m do x := {0}; }}", "part p {{ var x : 0..9; move m do x := 0..{0}; }}",
                     "sensor s = {0};"):
            self.assertEqual(whats(lines + text.format(fits)), [])
            self.assertEqual(whats(lines + text.format(large + " + 1")), ["too large"])
        self.assertEqual(whats(lines + f"part p {{ move m when {large} < 1; }}"), ["too large"])
        self.assertEqual(whats(lines + f"require r = {large} < 1;"), ["too large"])


class TestBounds(unittest.TestCase):
    """Point [15]: no part that is a number lies beyond 1000000000."""

    context = (
        "const m = 1000 * 1000000; part p { var a : -3..5; var b : -7..2; var c : 1..4; var n : -9..-6; "
        "var g : 0..m; var i : {u, v, w}; move stay; } "
    )

    def problems_of(self, text, extra=""):
        return whats(self.context + extra + f"sensor s = {text};")

    def check_bounds(self, text, low, high, extra=""):
        """The number lies from low to high."""
        great = ["a number can get too great"]
        self.assertEqual(self.problems_of(f"({text}) - ({high}) + m", extra), [], text)
        self.assertEqual(self.problems_of(f"({text}) - ({high}) + m + 1", extra), great, text)
        self.assertEqual(self.problems_of(f"({text}) - ({low}) - m", extra), [], text)
        self.assertEqual(self.problems_of(f"({text}) - ({low}) - m - 1", extra), great, text)

    def test_leaves(self):
        self.check_bounds("12", 12, 12)
        self.check_bounds("a", -3, 5)
        self.check_bounds("p.n", -9, -6)
        self.check_bounds("i", 0, 2)
        self.check_bounds("w", 2, 2)

    def test_sums_and_differences(self):
        self.check_bounds("a + b", -10, 7)
        self.check_bounds("a - b", -5, 12)
        self.check_bounds("b - a", -12, 5)
        self.check_bounds("n - c", -13, -7)
        self.check_bounds("-a", -5, 3)
        self.check_bounds("-n", 6, 9)

    def test_products(self):
        self.check_bounds("a * b", -35, 21)
        self.check_bounds("a * n", -45, 27)
        self.check_bounds("n * a", -45, 27)
        self.check_bounds("b * n", -18, 63)
        self.check_bounds("c * c", 1, 16)
        self.check_bounds("n * n", 36, 81)
        self.check_bounds("c * n", -36, -6)

    def test_min_and_max(self):
        self.check_bounds("min(a, b)", -7, 2)
        self.check_bounds("max(a, b)", -3, 5)
        self.check_bounds("min(c, n)", -9, -6)
        self.check_bounds("max(n, a)", -3, 5)
        self.check_bounds("min(a, c)", -3, 4)
        self.check_bounds("max(b, c)", 1, 4)

    def test_each_place_has_any_value(self):
        self.check_bounds("a - a", -8, 8)
        self.check_bounds("a * a", -15, 25)
        self.check_bounds("a + -a", -8, 8)

    def test_definitions_have_bounds(self):
        self.check_bounds("d", -35, 21, "define d = a * b;")
        self.check_bounds("d - d", -56, 56, "define d = a * b;")

    def test_1000000000_and_beyond(self):
        self.assertEqual(whats("const k = 1000 * 1000000;"), [])
        self.assertEqual(whats("const k = -1000 * 1000000;"), [])
        self.assertEqual(whats("const k = -(1000 * 1000000);"), [])
        self.assertEqual(whats("const k = 1000 * 1000000 + 1;"), ["a number can get too great"])
        self.assertEqual(whats("const k = -1000 * 1000000 - 1;"), ["a number can get too great"])

    def test_any_part_counts(self):
        great = ["a number can get too great"]
        for text in ("m + 1 - 1", "(m + 1) * 0", "min(m + 1, 0)", "max(0, m + 1)", "-(m + 1) + 1", "0 * (-m - 1)"):
            self.assertEqual(self.problems_of(text), great, text)
        for text in ("m + 1 < 0", "not m + 1 < 0", "0 = 1 and m + 1 < 0", "before (a < 1 or m * 2 = 1)",
                     "next (m * 2 = 1)", "true since m * 2 = 1", "always[3] m * -2 = 1"):
            self.assertEqual(whats(self.context + f"require r = {text};"), great, text)

    def test_range_beyond_is_a_problem_of_the_part(self):
        self.assertEqual(whats("part p { var x : 0..9999999 * 101; move m; }"), ["a number can get too great"])
        self.assertEqual(whats("part p { var x : -9999999 * 101..0; move m; }"), ["a number can get too great"])
        self.assertEqual(whats("part p { var x : 0..9 from 9999999 * 101; move m; }"), ["a number can get too great"])
        self.assertEqual(self.problems_of("g"), [])
        self.assertEqual(self.problems_of("g + 1"), ["a number can get too great"])
        self.assertEqual(self.problems_of("g - g"), [])
        self.assertEqual(self.problems_of("g - g - 1"), ["a number can get too great"])

    def test_very_great_numbers(self):
        text = " * ".join(["9999999"] * 31)
        self.assertEqual(whats(f"const k = {text};"), ["a number can get too great"])


if __name__ == "__main__":
    unittest.main()
