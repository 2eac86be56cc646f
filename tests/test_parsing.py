"""The grammar, its faults, levels and heights, and the trees: points [5] to [9]."""

import unittest

from wardens.errors import SourceError
from wardens.parsing import parse, parse_expression

RESERVED = (
    "const part var from move when do sensor lossy define require implies or and since not next all can "
    "must before once always min max true false"
).split()
A, B, C = ("name", "a"), ("name", "b"), ("name", "c")
X = ("name", "x")
COMPARISONS = ("<", "<=", "=", "!=", ">=", ">")
STRENGTHS = {"implies": 0, "or": 1, "and": 2, "since": 3, "+": 6, "-": 6, "*": 7}
STRENGTHS.update({sign: 5 for sign in COMPARISONS})
PREFIXES = {
    "not": lambda a: ("not", a), "next": lambda a: ("next", a), "all next": lambda a: ("allnext", a),
    "before": lambda a: ("before", a), "can": lambda a: ("can", None, a), "must": lambda a: ("must", None, a),
    "once": lambda a: ("once", None, a), "always": lambda a: ("always", None, a),
    "can[0]": lambda a: ("can", 0, a), "must[7]": lambda a: ("must", 7, a),
    "once[12]": lambda a: ("once", 12, a), "always[1000]": lambda a: ("always", 1000, a),
}
BEGIN_ITEM = "expected const, part, sensor, define or require"
BEGIN_PIECE = "expected var, move or }"
EXPRESSION = "expected an expression"


def whole(text):
    return parse_expression(text, whole=True)


def total(text):
    return parse_expression(text, whole=False)


def joined(sign, a, b):
    if sign in ("+", "-", "*"):
        return ("sum", sign, a, b)
    return ("compare", sign, a, b) if sign in COMPARISONS else (sign, a, b)


def caught(action):
    try:
        action()
    except SourceError as error:
        return (error.line, error.column, error.what)
    return None


def fault(text):
    return caught(lambda: parse(text))


def whole_fault(text):
    return caught(lambda: whole(text))


def total_fault(text):
    return caught(lambda: total(text))


def items(text):
    return parse(text)[0]


def piece(text):
    tree, _ = parse("part p { " + text + " }")
    return tree[0][2][0]


class TestAtoms(unittest.TestCase):
    def test_example_of_the_interface(self):
        self.assertEqual(
            whole("not x < 3 and can[2] y"),
            ("and", ("not", ("compare", "<", X, ("number", 3))), ("can", 2, ("name", "y"))),
        )

    def test_numbers(self):
        self.assertEqual(whole("0"), ("number", 0))
        self.assertEqual(whole("0000012"), ("number", 12))
        self.assertEqual(total("9999999"), ("number", 9999999))

    def test_truth_and_names(self):
        self.assertEqual(whole("true"), ("true",))
        self.assertEqual(total("false"), ("false",))
        self.assertEqual(whole("pump_2"), ("name", "pump_2"))
        self.assertEqual(whole("p.x"), ("dotted", "p", "x"))
        self.assertEqual(total("p . x"), ("dotted", "p", "x"))

    def test_parentheses_leave_no_trace(self):
        self.assertEqual(whole("((a))"), A)
        self.assertEqual(total("(((1)))"), ("number", 1))
        self.assertEqual(whole("(a and b)"), ("and", A, B))

    def test_any_expression_may_stand_in_parentheses(self):
        self.assertEqual(total("(a implies b)"), ("implies", A, B))
        self.assertEqual(total("1 + (not a)"), ("sum", "+", ("number", 1), ("not", A)))

    def test_min_and_max(self):
        self.assertEqual(total("min(a, b)"), ("least", A, B))
        self.assertEqual(total("max(a, b)"), ("greatest", A, B))
        self.assertEqual(total("min(max(a, b), -c)"), ("least", ("greatest", A, B), ("negative", C)))
        self.assertEqual(whole("max(a implies b, not c)"), ("greatest", ("implies", A, B), ("not", C)))

    def test_negation(self):
        self.assertEqual(total("-1"), ("negative", ("number", 1)))
        self.assertEqual(total("--a"), ("negative", ("negative", A)))
        self.assertEqual(total("- (a + b)"), ("negative", ("sum", "+", A, B)))
        self.assertEqual(total("-min(a, b)"), ("negative", ("least", A, B)))
        self.assertEqual(total("-p.x"), ("negative", ("dotted", "p", "x")))

    def test_names_are_words_that_are_not_reserved(self):
        for word in RESERVED:
            self.assertIsNone(fault(f"const {word}x = 1; const {word.upper()} = 1;"))
            self.assertEqual(fault(f"const {word} = 1;"), (1, 7, "expected a name"))
            self.assertEqual(whole_fault(f"p.{word}"), (1, 3, "expected a name"))
        for word in ("implies", "or", "and", "since", "const", "var", "lossy", "from", "when", "do"):
            self.assertEqual(whole_fault(word), (1, 1, EXPRESSION))


class TestStrengths(unittest.TestCase):
    def test_all_pairs_of_operators_between(self):
        for one, strength in STRENGTHS.items():
            for other, following in STRENGTHS.items():
                text = f"a {one} b {other} c"
                if strength == following == 5:
                    self.assertEqual(whole_fault(text), (1, 6 + len(one), "expected the end"), text)
                    continue
                left = joined(other, joined(one, A, B), C)
                right = joined(one, A, joined(other, B, C))
                to_the_left = strength > following or (strength == following and one != "implies")
                self.assertEqual(whole(text), left if to_the_left else right, text)

    def test_parentheses_turn_it_around(self):
        for one in STRENGTHS:
            for other in STRENGTHS:
                self.assertEqual(whole(f"(a {one} b) {other} c"), joined(other, joined(one, A, B), C))
                self.assertEqual(whole(f"a {one} (b {other} c)"), joined(one, A, joined(other, B, C)))

    def test_operators_in_front_against_operators_between(self):
        for front, make in PREFIXES.items():
            for sign, strength in STRENGTHS.items():
                if strength >= 5:
                    expected = make(joined(sign, A, B))
                    self.assertEqual(whole_fault(f"a {sign} {front} b")[2], EXPRESSION)
                else:
                    expected = joined(sign, make(A), B)
                    self.assertEqual(whole(f"a {sign} {front} b"), joined(sign, A, make(B)))
                self.assertEqual(whole(f"{front} a {sign} b"), expected)

    def test_operators_in_front_behind_each_other(self):
        for front, make in PREFIXES.items():
            for other, inner in PREFIXES.items():
                self.assertEqual(whole(f"{front} {other} a"), make(inner(A)))
                self.assertEqual(whole(f"{front} {other} a < b"), make(inner(joined("<", A, B))))
        self.assertEqual(
            whole("not next all next once[3] not x"),
            ("not", ("next", ("allnext", ("once", 3, ("not", X))))),
        )

    def test_sign_of_a_negation(self):
        for sign in STRENGTHS:
            self.assertEqual(whole(f"-a {sign} b"), joined(sign, ("negative", A), B))
            self.assertEqual(whole(f"a {sign} -b"), joined(sign, A, ("negative", B)))
        self.assertEqual(whole("not -a"), ("not", ("negative", A)))
        self.assertEqual(whole_fault("-not a"), (1, 2, EXPRESSION))

    def test_examples_of_the_document(self):
        self.assertEqual(whole("not x < 3"), whole("not (x < 3)"))
        self.assertEqual(whole("once a and b"), whole("(once a) and b"))
        self.assertNotEqual(whole("once a and b"), whole("once (a and b)"))

    def test_longer_rows(self):
        self.assertEqual(whole("a implies b implies c"), ("implies", A, ("implies", B, C)))
        self.assertEqual(whole("a since b since c"), ("since", ("since", A, B), C))
        self.assertEqual(total("a - b + c - a"), joined("-", joined("+", joined("-", A, B), C), A))
        self.assertEqual(total("a * b * c"), joined("*", joined("*", A, B), C))


class TestWholeOrSum(unittest.TestCase):
    def test_sum_ends_before_what_is_no_sum(self):
        for sign, strength in STRENGTHS.items():
            if strength <= 5:
                self.assertEqual(total_fault(f"a {sign} b"), (1, 3, "expected the end"))
                self.assertEqual(whole(f"a {sign} b"), joined(sign, A, B))
        for front in ("not", "next", "all next", "before", "can", "must", "once", "always"):
            self.assertEqual(total_fault(f"{front} a"), (1, 1, EXPRESSION))

    def test_expected_the_end(self):
        self.assertEqual(whole_fault("a b"), (1, 3, "expected the end"))
        self.assertEqual(whole_fault("a\n ;"), (2, 2, "expected the end"))
        self.assertEqual(whole_fault("(a))"), (1, 4, "expected the end"))
        self.assertEqual(total_fault("1 +- 2"), (1, 3, "expected the end"))
        self.assertEqual(total_fault("1..2"), (1, 2, "expected the end"))
        self.assertEqual(whole_fault("a not b"), (1, 3, "expected the end"))

    def test_the_fault_comes_before_the_end(self):
        self.assertEqual(whole_fault("a + ; b"), (1, 5, EXPRESSION))
        self.assertEqual(whole_fault("(a b"), (1, 4, "expected )"))
        self.assertEqual(whole_fault("a b !"), (1, 5, "unknown character"))

    def test_empty_text(self):
        self.assertEqual(whole_fault(""), (1, 1, EXPRESSION))
        self.assertEqual(total_fault("\n # a"), (2, 5, EXPRESSION))

    def test_whole_is_passed_by_name(self):
        with self.assertRaises(TypeError):
            parse_expression("a", True)


class TestItems(unittest.TestCase):
    def test_empty_source(self):
        self.assertEqual(parse(""), ((), ()))
        self.assertEqual(parse(" # nothing\n"), ((), ()))

    def test_const(self):
        self.assertEqual(items("const k = 3;"), (("const", "k", ("number", 3)),))
        self.assertEqual(items("const k=(a<b);"), (("const", "k", ("compare", "<", A, B)),))

    def test_define_and_require(self):
        self.assertEqual(items("define d = a implies b;"), (("define", "d", ("implies", A, B)),))
        self.assertEqual(items("require r = once[3] a;"), (("require", "r", ("once", 3, A)),))
        self.assertEqual(items("require r = 1;"), (("require", "r", ("number", 1)),))

    def test_sensor(self):
        one = ("number", 1)
        self.assertEqual(items("sensor s = x;"), (("sensor", "s", X, None, False),))
        self.assertEqual(items("sensor s = x lossy;"), (("sensor", "s", X, None, True),))
        self.assertEqual(items("sensor s = x +- 1;"), (("sensor", "s", X, one, False),))
        self.assertEqual(items("sensor s = x+-1 lossy;"), (("sensor", "s", X, one, True),))
        self.assertEqual(
            items("sensor s = x + 1 +- a - 1;"),
            (("sensor", "s", ("sum", "+", X, one), ("sum", "-", A, one), False),),
        )

    def test_part(self):
        self.assertEqual(items("part p { }"), (("part", "p", ()),))
        self.assertEqual(
            items("part p { var x : 0..1; move m; var y : {a, b}; }"),
            (("part", "p", (("var", "x", ("number", 0), ("number", 1), None), ("move", "m", None, ()),
                            ("cases", "y", ("a", "b"), None))),),
        )

    def test_variables(self):
        self.assertEqual(piece("var x : a..b;"), ("var", "x", A, B, None))
        self.assertEqual(piece("var x : a..b from c;"), ("var", "x", A, B, (C, None)))
        self.assertEqual(piece("var x : a..b from c..a;"), ("var", "x", A, B, (C, A)))
        self.assertEqual(piece("var x : -a..a+b;"), ("var", "x", ("negative", A), joined("+", A, B), None))

    def test_named_values(self):
        self.assertEqual(piece("var m : {a};"), ("cases", "m", ("a",), None))
        self.assertEqual(piece("var m : {a, b, c};"), ("cases", "m", ("a", "b", "c"), None))
        self.assertEqual(piece("var m : {a, a} from a;"), ("cases", "m", ("a", "a"), (A, None)))
        self.assertEqual(piece("var m : {a, b} from a..b;"), ("cases", "m", ("a", "b"), (A, B)))

    def test_moves(self):
        self.assertEqual(piece("move m;"), ("move", "m", None, ()))
        self.assertEqual(piece("move m when a or b;"), ("move", "m", ("or", A, B), ()))
        self.assertEqual(piece("move m do x := a;"), ("move", "m", None, (("x", A, None),)))
        self.assertEqual(
            piece("move m when a do x := a, y := b..c, x := -a;"),
            ("move", "m", A, (("x", A, None), ("y", B, C), ("x", ("negative", A), None))),
        )

    def test_places(self):
        text = "const a = 1; const b = 2;\n\n  part p {\n}# c\nsensor s = x;\n\trequire\n r = a;"
        tree, places = parse(text)
        self.assertEqual([item[0] for item in tree], ["const", "const", "part", "sensor", "require"])
        self.assertEqual(places, ((1, 1), (1, 14), (3, 3), (5, 1), (6, 2)))

    def test_kinds_of_values(self):
        tree, places = parse("part p { var m : {a} from a; move m do x := 1; } const k = 1;")
        self.assertIs(type(parse("")), tuple)
        for value in (tree, places, tree[0], tree[0][2], tree[0][2][0], tree[0][2][0][2], tree[0][2][0][3],
                      tree[0][2][1][3], tree[0][2][1][3][0], places[0]):
            self.assertIs(type(value), tuple)

    def test_a_source_of_the_greatest_length(self):
        text = "const a=1;" * 400
        self.assertEqual(len(text), 4000)
        self.assertEqual(len(items(text)), 400)


class TestFaults(unittest.TestCase):
    def check(self, cases):
        for text, column, what in cases:
            self.assertEqual(fault(text), (1, column, what), text)

    def test_begin_of_an_item(self):
        self.check([
            ("x", 1, BEGIN_ITEM), (";", 1, BEGIN_ITEM), ("1", 1, BEGIN_ITEM), ("var x : 0..1;", 1, BEGIN_ITEM),
            ("const k = 1;;", 13, BEGIN_ITEM), ("part p { } }", 12, BEGIN_ITEM),
            ("part p { };", 11, BEGIN_ITEM), ("require r = a; a", 16, BEGIN_ITEM),
        ])

    def test_const(self):
        self.check([
            ("const", 6, "expected a name"), ("const = 1;", 7, "expected a name"),
            ("const 1", 7, "expected a name"), ("const k", 8, "expected ="), ("const k := 1;", 9, "expected ="),
            ("const k =", 10, EXPRESSION), ("const k = ;", 11, EXPRESSION),
            ("const k = 1", 12, "expected ;"), ("const k = 1 const", 13, "expected ;"),
            ("const k = 1 < 2;", 13, "expected ;"), ("const k = 1..2;", 12, "expected ;"),
            ("const k = 1 and 2;", 13, "expected ;"), ("const k = not a;", 11, EXPRESSION),
            ("const k = 1 2;", 13, "expected ;"), ("const k = 1 (2);", 13, "expected ;"),
        ])

    def test_definitions_and_requirements(self):
        self.check([
            ("define", 7, "expected a name"), ("define d", 9, "expected ="), ("define d = ", 12, EXPRESSION),
            ("define d = a", 13, "expected ;"), ("define d = a < b < c;", 18, "expected ;"),
            ("require", 8, "expected a name"), ("require when = a;", 9, "expected a name"),
            ("require r a;", 11, "expected ="), ("require r = a lossy;", 15, "expected ;"),
            ("require r = a or;", 17, EXPRESSION), ("require r = a not b;", 15, "expected ;"),
        ])

    def test_sensors(self):
        self.check([
            ("sensor", 7, "expected a name"), ("sensor s", 9, "expected ="), ("sensor s =", 11, EXPRESSION),
            ("sensor s = x", 13, "expected ;"), ("sensor s = x +-", 16, EXPRESSION),
            ("sensor s = x +- lossy;", 17, EXPRESSION), ("sensor s = x +- 1", 18, "expected ;"),
            ("sensor s = x +- 1 +- 2;", 19, "expected ;"), ("sensor s = x lossy", 19, "expected ;"),
            ("sensor s = x lossy +- 1;", 20, "expected ;"), ("sensor s = x lossy lossy;", 20, "expected ;"),
            ("sensor s = x = 1;", 14, "expected ;"),
        ])

    def test_parts(self):
        self.check([
            ("part", 5, "expected a name"), ("part p", 7, "expected {"), ("part p;", 7, "expected {"),
            ("part p {", 9, BEGIN_PIECE), ("part p { x", 10, BEGIN_PIECE), ("part p { const", 10, BEGIN_PIECE),
            ("part p { move m; ;", 18, BEGIN_PIECE), ("part p { move m;", 17, BEGIN_PIECE),
        ])

    def test_variables(self):
        self.check([
            ("part p { var", 13, "expected a name"), ("part p { var x", 15, "expected :"),
            ("part p { var x := 1", 16, "expected :"), ("part p { var x :", 17, EXPRESSION),
            ("part p { var x : ;", 18, EXPRESSION), ("part p { var x : from", 18, EXPRESSION),
            ("part p { var x : not a..1;", 18, EXPRESSION),
            ("part p { var x : 1", 19, "expected .."), ("part p { var x : 1;", 19, "expected .."),
            ("part p { var x : 1 . 2;", 20, "expected .."), ("part p { var x : 1 < 2..3;", 20, "expected .."),
            ("part p { var x : 1..", 21, EXPRESSION), ("part p { var x : 1..;", 21, EXPRESSION),
            ("part p { var x : 1..2", 22, "expected ;"), ("part p { var x : 1..2..3;", 22, "expected ;"),
            ("part p { var x : 1..2 from", 27, EXPRESSION), ("part p { var x : 1..2 from ;", 28, EXPRESSION),
            ("part p { var x : 1..2 from 1", 29, "expected ;"),
            ("part p { var x : 1..2 from 1,", 29, "expected ;"),
            ("part p { var x : 1..2 from 1..", 31, EXPRESSION),
            ("part p { var x : 1..2 from 1..2", 32, "expected ;"),
            ("part p { var x : 1..2 from 1..2..3;", 32, "expected ;"),
        ])

    def test_named_values(self):
        self.check([
            ("part p { var x : {", 19, "expected a name"), ("part p { var x : {}", 19, "expected a name"),
            ("part p { var x : {1}", 19, "expected a name"), ("part p { var x : {a", 20, "expected }"),
            ("part p { var x : {a b}", 21, "expected }"), ("part p { var x : {a;", 20, "expected }"),
            ("part p { var x : {a,", 21, "expected a name"), ("part p { var x : {a,}", 21, "expected a name"),
            ("part p { var x : {a}", 21, "expected ;"), ("part p { var x : {a}..1;", 21, "expected ;"),
            ("part p { var x : {a} from {", 27, EXPRESSION), ("part p { var x : {a} from a", 28, "expected ;"),
        ])

    def test_moves(self):
        self.check([
            ("part p { move", 14, "expected a name"), ("part p { move m", 16, "expected ;"),
            ("part p { move m x", 17, "expected ;"), ("part p { move m when", 21, EXPRESSION),
            ("part p { move m when ;", 22, EXPRESSION), ("part p { move m when a", 23, "expected ;"),
            ("part p { move m when a when", 24, "expected ;"), ("part p { move m do", 19, "expected a name"),
            ("part p { move m do ;", 20, "expected a name"), ("part p { move m do x", 21, "expected :="),
            ("part p { move m do x = 1", 22, "expected :="), ("part p { move m do x :=", 24, EXPRESSION),
            ("part p { move m do x := ;", 25, EXPRESSION), ("part p { move m do x := 1", 26, "expected ;"),
            ("part p { move m do x := 1 y", 27, "expected ;"),
            ("part p { move m do x := 1..", 28, EXPRESSION),
            ("part p { move m do x := 1..2", 29, "expected ;"),
            ("part p { move m do x := 1,", 27, "expected a name"),
            ("part p { move m do x := 1,;", 27, "expected a name"),
            ("part p { move m do p.x := 1", 21, "expected :="),
            ("part p { move m do x := 1 when a;", 27, "expected ;"),
        ])

    def test_expressions(self):
        for text, column, what in [
            ("all", 4, "expected next"), ("all a", 5, "expected next"), ("all[3] a", 4, "expected next"),
            ("not", 4, EXPRESSION), ("not not", 8, EXPRESSION), ("next ;", 6, EXPRESSION),
            ("all next", 9, EXPRESSION), ("before )", 8, EXPRESSION), ("not [3] a", 5, EXPRESSION),
            ("next[3] a", 5, EXPRESSION), ("before[3] a", 7, EXPRESSION), ("all next[3] a", 9, EXPRESSION),
            ("can", 4, EXPRESSION), ("must or", 6, EXPRESSION), ("once[", 6, "expected a number"),
            ("once[]", 6, "expected a number"), ("always[k] a", 8, "expected a number"),
            ("always[-1] a", 8, "expected a number"), ("can[3", 6, "expected ]"), ("can[3 4]", 7, "expected ]"),
            ("can[3 a", 7, "expected ]"), ("must[3]", 8, EXPRESSION), ("must[3] [4] a", 9, EXPRESSION),
            ("a implies", 10, EXPRESSION), ("a or", 5, EXPRESSION), ("a and", 6, EXPRESSION),
            ("a since", 8, EXPRESSION), ("a <", 4, EXPRESSION), ("a = = b", 5, EXPRESSION),
            ("a < not b", 5, EXPRESSION), ("a +", 4, EXPRESSION), ("a + + b", 5, EXPRESSION),
            ("a *", 4, EXPRESSION), ("a * * b", 5, EXPRESSION), ("-", 2, EXPRESSION), ("a - )", 5, EXPRESSION),
            ("(", 2, EXPRESSION), ("()", 2, EXPRESSION), ("(a", 3, "expected )"), ("(a;", 3, "expected )"),
            ("(a, b)", 3, "expected )"), ("(a < b < c)", 8, "expected )"), (")", 1, EXPRESSION),
            ("min", 4, "expected ("), ("min a", 5, "expected ("), ("min(", 5, EXPRESSION),
            ("min()", 5, EXPRESSION), ("min(a", 6, "expected ,"), ("min(a)", 6, "expected ,"),
            ("min(a,", 7, EXPRESSION), ("min(a,)", 7, EXPRESSION), ("max(a, b", 9, "expected )"),
            ("max(a, b, c)", 9, "expected )"), ("a.", 3, "expected a name"), ("a.1", 3, "expected a name"),
            ("a.b.c", 4, "expected the end"), ("true.x", 5, "expected the end"), ("1.x", 2, "expected the end"),
            ("[", 1, EXPRESSION), ("when", 1, EXPRESSION), ("a or implies b", 6, EXPRESSION),
        ]:
            self.assertEqual(whole_fault(text), (1, column, what), text)

    def test_only_sums_stand_where_the_grammar_has_a_sum(self):
        text = "const k = _; part p { var x : _.._ from _.._; move m do x := _.._; } sensor s = _ +- _;"
        places = text.split("_")
        for k in range(1, len(places)):
            before, behind = "1".join(places[:k]), "1".join(places[k:])
            sign = "expected .." if k == 2 else "expected ;"
            column = len(before) + 1
            self.assertIsNone(fault(before + "(not a < b)" + behind))
            self.assertEqual(fault(before + "not a" + behind), (1, column, EXPRESSION))
            for word in ("<", "=", "and", "since", "implies"):
                self.assertEqual(fault(f"{before}a {word} b{behind}"), (1, column + 2, sign), k)

    def test_lines_of_faults(self):
        self.assertEqual(fault("const k = 1;\n\nconst j 2;"), (3, 9, "expected ="))
        self.assertEqual(fault("const k =\n"), (2, 1, EXPRESSION))
        self.assertEqual(fault("const k = 1 # ;\n  "), (2, 3, "expected ;"))

    def test_first_fault_counts(self):
        self.assertEqual(fault("const 1 = ; require"), (1, 7, "expected a name"))

    def test_all_words_are_read_first(self):
        self.assertEqual(fault("const 1 = ; !"), (1, 13, "unknown character"))
        self.assertEqual(fault("x y z\n " + "a" * 21), (2, 2, "unknown character"))
        self.assertEqual(whole_fault("(" * 13 + "$"), (1, 14, "unknown character"))
        self.assertEqual(fault("const k = 1" + " + 1" * 31 + "; 12345678"), (1, 138, "unknown character"))


class TestLevels(unittest.TestCase):
    def deepest(self, begin, inner, end, width):
        """12 levels are read; the fault is at the word that begins level 13."""
        self.assertIsNone(whole_fault(begin * 12 + inner + end * 12), begin)
        self.assertEqual(whole_fault(begin * 13 + inner + end * 13), (1, 12 * width + 1, "nested too deeply"))

    def test_parentheses(self):
        self.deepest("(", "a", ")", 1)

    def test_operators_in_front(self):
        for front in PREFIXES:
            self.deepest(front + " ", "a", "", len(front) + 1)

    def test_sign_of_a_negation(self):
        self.deepest("-", "a", "", 1)
        self.assertEqual(total_fault("-" * 13 + "1"), (1, 13, "nested too deeply"))

    def test_right_operands_of_implies(self):
        self.assertIsNone(whole_fault("a implies " * 12 + "a"))
        self.assertEqual(whole_fault("a implies " * 13 + "a"), (1, 12 * 10 + 3, "nested too deeply"))

    def test_left_operand_of_implies_is_no_deeper(self):
        inner = "(" * 11 + "not a" + ")" * 11
        self.assertIsNone(whole_fault(inner + " implies b"))
        self.assertIsNone(whole_fault("b implies " + inner[1:-1]))
        self.assertEqual(whole_fault("b implies " + inner), (1, 22, "nested too deeply"))

    def test_both_operands_of_min_and_max(self):
        for word in ("min", "max"):
            self.deepest(word + "(", "1", ", 1)", 4)
            self.deepest(word + "(1, ", "1", ")", 7)

    def test_levels_of_different_kinds_count_together(self):
        text = "not can[3] (-min(b, once (a implies (x < -(-"
        self.assertIsNone(whole_fault(text + "1)))))"))
        self.assertEqual(whole_fault(text + "(1))))))"), (1, len(text) + 1, "nested too deeply"))
        self.assertEqual(whole_fault(text + "-1)))))"), (1, len(text) + 1, "nested too deeply"))

    def test_other_operands_are_no_deeper(self):
        deep = "(" * 12 + "a" + ")" * 12
        for sign in STRENGTHS:
            self.assertIsNone(whole_fault(f"{deep} {sign} a"))
            if sign != "implies":
                self.assertIsNone(whole_fault(f"a {sign} {deep}"))
        self.assertIsNone(whole_fault(f"not a and {deep}"))
        self.assertIsNone(whole_fault(f"(a) or ((a)) or {deep}"))

    def test_the_word_alone_is_enough(self):
        for word in ("(", "-", "not", "next", "all", "before", "can", "must", "once", "always", "min", "max"):
            self.assertEqual(whole_fault("(" * 12 + word), (1, 13, "nested too deeply"), word)
            self.assertEqual(whole_fault("(" * 12 + word + " ;"), (1, 13, "nested too deeply"), word)
        self.assertEqual(whole_fault("(" * 12 + "a implies"), (1, 15, "nested too deeply"))
        self.assertEqual(whole_fault("(" * 12 + ";"), (1, 13, EXPRESSION))

    def test_each_expression_of_an_item_begins_at_level_0(self):
        deep = "(" * 12 + "1" + ")" * 12
        text = (f"const k = {deep}; part p {{ var x : {deep}..{deep} from {deep}..{deep}; "
                f"move m when {deep} do x := {deep}..{deep}; }} sensor s = {deep} +- {deep}; "
                f"define d = {deep}; require r = {deep};")
        self.assertIsNone(fault(text))
        for k in range(1, 13):
            place = [i for i in range(len(text)) if text.startswith(deep, i)][k - 1]
            worse = text[:place] + "(" + deep + ")" + text[place + len(deep):]
            self.assertEqual(fault(worse), (1, place + 13, "nested too deeply"))


def row_of_height(height):
    return "1" + "+1" * height


class TestHeights(unittest.TestCase):
    def test_30_and_31(self):
        self.assertIsNone(whole_fault(row_of_height(30)))
        self.assertIsNone(total_fault(row_of_height(30)))
        self.assertEqual(whole_fault(row_of_height(31)), (1, 64, "too many operators"))
        self.assertEqual(total_fault(row_of_height(31) + "\n"), (2, 1, "too many operators"))

    def test_each_operator_counts_1(self):
        inner = "(" + row_of_height(29) + ")"
        more = "(" + row_of_height(30) + ")"
        forms = [f"a {sign} _" for sign in STRENGTHS] + [f"_ {sign} a" for sign in STRENGTHS]
        forms += [f"{front} _" for front in PREFIXES] + ["-_", "min(_, a)", "min(a, _)", "max(_, a)", "max(a, _)"]
        for form in forms:
            self.assertIsNone(whole_fault(form.replace("_", inner)), form)
            text = form.replace("_", more)
            self.assertEqual(whole_fault(text), (1, len(text) + 1, "too many operators"), form)

    def test_parentheses_and_leaves_do_not_count(self):
        self.assertIsNone(whole_fault("((((" + row_of_height(30) + "))))"))
        self.assertIsNone(whole_fault("p.x" + "+p.x" * 30))
        self.assertIsNone(whole_fault("true" + " and false" * 30))
        self.assertEqual(whole_fault("p.x" + "+p.x" * 31)[2], "too many operators")

    def test_greatest_height_of_the_operands(self):
        half = "(" + row_of_height(29) + ")"
        self.assertIsNone(whole_fault(f"{half} * {half}"))
        self.assertEqual(whole_fault(f"{half} * {half} * {half}")[2], "too many operators")
        self.assertIsNone(whole_fault(f"a * {half}"))
        self.assertEqual(whole_fault(f"a * a * {half}"), None)
        self.assertEqual(whole_fault(f"a * {half} * a")[2], "too many operators")

    def test_very_long_rows(self):
        self.assertEqual(whole_fault(row_of_height(1990)), (1, 3982, "too many operators"))
        self.assertEqual(whole_fault("(" + row_of_height(1990) + ")")[2], "too many operators")

    def test_at_the_word_behind_the_expression(self):
        self.assertEqual(fault("const k = " + row_of_height(31) + ";"), (1, 74, "too many operators"))
        self.assertEqual(fault("const k = " + row_of_height(31) + "\n ;"), (2, 2, "too many operators"))
        self.assertEqual(fault("const k = " + row_of_height(31)), (1, 74, "too many operators"))

    def test_ahead_of_any_other_fault_at_that_position(self):
        for word in ("const", "x", "1", ")", "<", "..", "and", "implies", "("):
            text = "const k = " + row_of_height(31) + " " + word
            self.assertEqual(fault(text), (1, 75, "too many operators"), word)
        self.assertEqual(whole_fault(row_of_height(31) + " a"), (1, 65, "too many operators"))

    def test_faults_within_the_expression_come_first(self):
        text = row_of_height(31)
        self.assertEqual(whole_fault("(" + text + ";"), (1, 65, "expected )"))
        self.assertEqual(whole_fault(text + "+;"), (1, 65, EXPRESSION))
        self.assertEqual(whole_fault(text + " and ;"), (1, 69, EXPRESSION))
        self.assertEqual(whole_fault("min(" + text + ")"), (1, 68, "expected ,"))

    def test_each_expression_of_an_item(self):
        high, higher = row_of_height(30), row_of_height(31)
        text = ("const k = _; part p { var x : _.._ from _.._; move m when _ do x := _.._; } "
                "sensor s = _ +- _; define d = _; require r = _;")
        self.assertIsNone(fault(text.replace("_", high)))
        for k in range(text.count("_")):
            before = text.split("_")[:k + 1]
            behind = text.split("_")[k + 1:]
            worse = high.join(before) + higher + high.join(behind)
            rest = high.join(behind)
            column = len(worse) - len(rest.lstrip()) + 1
            self.assertEqual(fault(worse), (1, column, "too many operators"), k)


if __name__ == "__main__":
    unittest.main()
