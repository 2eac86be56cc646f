"""The printed form: point [10]."""

import random
import unittest

from wardens.errors import SourceError
from wardens.parsing import parse, parse_expression
from wardens.printing import print_expression, print_source

A, B, C = ("name", "a"), ("name", "b"), ("name", "c")
COMPARISONS = ("<", "<=", "=", "!=", ">=", ">")
BETWEEN = ("implies", "or", "and", "since") + COMPARISONS + ("+", "-", "*")
FRONT = {
    "not": lambda a: ("not", a), "next": lambda a: ("next", a), "all next": lambda a: ("allnext", a),
    "before": lambda a: ("before", a), "can": lambda a: ("can", None, a), "must[0]": lambda a: ("must", 0, a),
    "once": lambda a: ("once", None, a), "always[1000]": lambda a: ("always", 1000, a),
}


def joined(sign, a, b):
    if sign in ("+", "-", "*"):
        return ("sum", sign, a, b)
    return ("compare", sign, a, b) if sign in COMPARISONS else (sign, a, b)


def makers():
    """Each operator, as a function of its two operands; an operator with one operand leaves out the second."""
    found = [lambda a, b, sign=sign: joined(sign, a, b) for sign in BETWEEN]
    found += [lambda a, b, make=make: make(a) for make in FRONT.values()]
    found += [lambda a, b: ("negative", a), lambda a, b: ("least", a, b), lambda a, b: ("greatest", a, b)]
    return found


def random_tree(source, depth):
    if depth == 0 or source.random() < 0.15:
        return source.choice([A, B, ("number", 0), ("number", 12), ("true",), ("false",), ("dotted", "p", "x")])
    return source.choice(makers())(random_tree(source, depth - 1), random_tree(source, depth - 1))


def whole(tree):
    return print_expression(tree, whole=True)


def total(tree):
    return print_expression(tree, whole=False)


def without_pair(text, place):
    """The text without the parenthesis at a place and the one that closes it."""
    depth = 0
    for end in range(place, len(text)):
        depth += {"(": 1, ")": -1}.get(text[end], 0)
        if depth == 0:
            return text[:place] + " " + text[place + 1:end] + " " + text[end + 1:]
    raise AssertionError(text)


def read(text, is_whole):
    try:
        return parse_expression(text, whole=is_whole)
    except SourceError:
        return None


class TestExpressions(unittest.TestCase):
    def check_tree(self, tree):
        for is_whole in (True, False):
            text = print_expression(tree, whole=is_whole)
            self.assertEqual(read(text, is_whole), tree, text)
            for place, character in enumerate(text):
                if character == "(" and text[max(0, place - 3):place] not in ("min", "max"):
                    self.assertNotEqual(read(without_pair(text, place), is_whole), tree, text)

    def test_example_of_the_interface(self):
        tree = ("sum", "*", ("sum", "+", ("number", 1), ("name", "x")), ("negative", ("number", 2)))
        self.assertEqual(total(tree), "(1 + x) * -2")

    def test_leaves(self):
        for tree, text in ((("number", 0), "0"), (("number", 9999999), "9999999"), (("true",), "true"),
                           (("false",), "false"), (A, "a"), (("dotted", "p", "x"), "p.x")):
            self.assertEqual(whole(tree), text)
            self.assertEqual(total(tree), text)

    def test_numbers_without_zeros_in_front(self):
        self.assertEqual(whole(parse_expression("once[007] x < 0012", whole=True)), "once[7] x < 12")
        self.assertEqual(whole(parse_expression("000", whole=True)), "0")

    def test_blanks(self):
        for text in ("a implies b", "a or b", "a and b", "a since b", "a < b", "a <= b", "a = b", "a != b",
                     "a >= b", "a > b", "a + b", "a - b", "a * b", "-a", "--a", "- (a)", "a - -b", "a + -b",
                     "min(a, b)", "max(a, -b)", "not a", "not not a", "next a", "all next a", "before a",
                     "can a", "must a", "once a", "always a", "can[3] a", "must[0] a", "once[1] a", "always[2] a",
                     "once[3] (a and b)", "not (a or b)", "-(a + b)", "-min(a, b)", "min(max(a, b), c)",
                     "min(a implies b, not c)", "p.x + q.y", "-p.x", "not -a", "can[3] -a < 0"):
            tree = parse_expression(text, whole=True)
            self.assertEqual(whole(tree), "-a" if text == "- (a)" else text)

    def test_whole_expression_where_a_sum_stands(self):
        for sign in BETWEEN:
            text = f"a {sign} b"
            self.assertEqual(whole(joined(sign, A, B)), text)
            self.assertEqual(total(joined(sign, A, B)), text if sign in "+-*" else f"({text})")
        for front, make in FRONT.items():
            self.assertEqual(whole(make(A)), f"{front} a")
            self.assertEqual(total(make(A)), f"({front} a)")
        for tree, text in ((("negative", A), "-a"), (("least", A, B), "min(a, b)")):
            self.assertEqual(whole(tree), text)
            self.assertEqual(total(tree), text)

    def test_parentheses_of_operands(self):
        for tree, text in (
            (joined("and", joined("and", A, B), C), "a and b and c"),
            (joined("and", A, joined("and", B, C)), "a and (b and c)"),
            (joined("implies", A, joined("implies", B, C)), "a implies b implies c"),
            (joined("implies", joined("implies", A, B), C), "(a implies b) implies c"),
            (joined("or", joined("and", A, B), C), "a and b or c"),
            (joined("and", joined("or", A, B), C), "(a or b) and c"),
            (joined("since", ("not", A), B), "not a since b"),
            (("not", joined("since", A, B)), "not (a since b)"),
            (joined("<", ("not", A), B), "(not a) < b"),
            (joined("=", joined("<", A, B), C), "(a < b) = c"),
            (joined("=", A, joined("<", B, C)), "a = (b < c)"),
            (("not", joined("<", A, B)), "not a < b"),
            (joined("-", A, joined("-", B, C)), "a - (b - c)"),
            (joined("-", joined("-", A, B), C), "a - b - c"),
            (joined("+", A, joined("+", B, C)), "a + (b + c)"),
            (joined("*", joined("+", A, B), C), "(a + b) * c"),
            (joined("+", joined("*", A, B), C), "a * b + c"),
            (("negative", joined("*", A, B)), "-(a * b)"),
            (joined("*", ("negative", A), B), "-a * b"),
            (("negative", ("not", A)), "-(not a)"),
            (("least", joined("implies", A, B), ("not", C)), "min(a implies b, not c)"),
            (joined("and", A, ("once", None, joined("implies", B, C))), "a and once (b implies c)"),
        ):
            self.assertEqual(whole(tree), text)

    def test_each_operator_within_each_other(self):
        for outer in makers():
            for inner in makers():
                self.check_tree(outer(inner(A, B), C))
                self.check_tree(outer(C, inner(A, B)))

    def test_many_trees(self):
        source = random.Random(7)
        for _ in range(400):
            self.check_tree(random_tree(source, 4))

    def test_whole_is_passed_by_name(self):
        with self.assertRaises(TypeError):
            print_expression(A, True)


SOURCE = """const k = 3;
const t = (1 < 2);
part empty {
}
part p {
  var x : 0..k + 2 from 1..2;
  var y : -1..-k * 2;
  var z : (a < b)..min(1, 2) from (not a);
  var m : {idle, busy} from idle;
  var n : {only};
  var o : {u, v} from u..v;
  move stay;
  move go when x < 3 or once[2] y = p.x;
  move set do x := x + 1;
  move both when true do x := 0..k, m := idle, y := (a or b)..-1;
}
sensor s = x;
sensor lost = p.x - 1 lossy;
sensor near = x +- 2;
sensor both = x * 2 +- (a = b) lossy;
define d = a implies b;
require r = always (a implies once[12] b);
"""
SPREAD = """
const k=0003 ; const t=((1<2)); # why not
part empty{} part p{var x:0..(k+2)from 1..2;var y : - 1 .. (-k)*2;
var z:(a<b)..min ( 1 , (2) )from(not a) ;
var m:{idle , busy}from idle;var n:{ only };var o:{u,v}from u..v;
move stay; move go when x<3 or(once [ 2 ] (y=p . x));
move set do x:=x+1; move both when true do x:=0..k,m:=idle,y:=(a or b)..-1;}
sensor s=x;sensor lost=p.x-1 lossy;sensor near=x+-2;sensor both=x*2+-(a=b)lossy;
define d=(a)implies(b);require r=always(a implies once[012]b);"""


class TestSources(unittest.TestCase):
    def test_printed_form(self):
        self.assertEqual(print_source(parse(SPREAD)[0]), SOURCE)

    def test_printing_again_gives_the_same(self):
        tree, _ = parse(SOURCE)
        self.assertEqual(print_source(tree), SOURCE)
        self.assertEqual(tree, parse(SPREAD)[0])

    def test_empty_source(self):
        self.assertEqual(print_source(()), "")

    def test_each_kind_of_item(self):
        one = ("number", 1)
        for item, text in (
            (("const", "k", one), "const k = 1;\n"),
            (("const", "k", ("compare", "<", one, ("number", 2))), "const k = (1 < 2);\n"),
            (("part", "p", ()), "part p {\n}\n"),
            (("part", "p", (("move", "m", None, ()),)), "part p {\n  move m;\n}\n"),
            (("sensor", "s", A, None, False), "sensor s = a;\n"),
            (("sensor", "s", A, None, True), "sensor s = a lossy;\n"),
            (("sensor", "s", A, one, False), "sensor s = a +- 1;\n"),
            (("sensor", "s", A, ("negative", one), True), "sensor s = a +- -1 lossy;\n"),
            (("define", "d", ("implies", A, B)), "define d = a implies b;\n"),
            (("require", "r", ("not", ("compare", "<", A, B))), "require r = not a < b;\n"),
        ):
            self.assertEqual(print_source((item,)), text)
            self.assertEqual(print_source((item, ("const", "z", one))), text + "const z = 1;\n")

    def test_each_kind_of_piece(self):
        for piece, text in (
            (("var", "x", A, B, None), "var x : a..b;"),
            (("var", "x", A, B, (C, None)), "var x : a..b from c;"),
            (("var", "x", A, B, (A, C)), "var x : a..b from a..c;"),
            (("var", "x", ("negative", A), ("sum", "+", A, B), (("not", C), ("least", A, B))),
             "var x : -a..a + b from (not c)..min(a, b);"),
            (("cases", "x", ("a",), None), "var x : {a};"),
            (("cases", "x", ("a", "b", "c"), (A, None)), "var x : {a, b, c} from a;"),
            (("cases", "x", ("a", "b"), (A, B)), "var x : {a, b} from a..b;"),
            (("move", "m", None, ()), "move m;"),
            (("move", "m", ("or", A, B), ()), "move m when a or b;"),
            (("move", "m", None, (("x", A, None),)), "move m do x := a;"),
            (("move", "m", A, (("x", A, B), ("y", ("and", A, B), C))), "move m when a do x := a..b, y := (a and b)..c;"),
        ):
            self.assertEqual(print_source((("part", "p", (piece,)),)), "part p {\n  " + text + "\n}\n")


if __name__ == "__main__":
    unittest.main()
