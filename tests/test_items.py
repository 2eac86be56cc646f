"""The items and their problems: points [11], [16] and [17]."""

import unittest

from wardens.names import compile_source, problems


def whats(text):
    return [what for _, _, what in problems(text)]


def consts(many, first=0):
    return "".join([f"const c{k}=1;" for k in range(first, first + many)])


def variables(many, first=0):
    return " ".join([f"var v{k} : 0..1;" for k in range(first, first + many)])


class TestPositionsAndOrder(unittest.TestCase):
    def test_no_problems(self):
        self.assertEqual(problems(""), [])
        self.assertEqual(problems("const k = 1;"), [])

    def test_position_of_the_first_word(self):
        text = "const k = 1;\n  const\n  k = 2; require r = 1;\n\tpart p {\n  var x : 1..0;\n}\nsensor s = y;\n"
        self.assertEqual(problems(text), [
            (2, 3, "declared twice: k"), (3, 10, "expected a condition"), (4, 2, "empty range: x"),
            (7, 1, "unknown name: y"),
        ])

    def test_order_of_the_items(self):
        text = "require r = a; const k = b; define d = c; const k = e; sensor s = true;"
        self.assertEqual(whats(text), ["unknown name: a", "unknown name: b", "unknown name: c", "unknown name: e",
                                       "expected a number"])

    def test_fault_of_parsing_stands_alone(self):
        self.assertEqual(problems("const k = a;\nconst k = a"), [(2, 12, "expected ;")])
        self.assertEqual(problems("const k = a; !"), [(1, 14, "unknown character")])
        self.assertEqual(problems("const k = " + "(" * 13), [(1, 23, "nested too deeply")])

    def test_each_item_has_at_most_one_problem(self):
        text = "part p { var x : a..b; var x : 1..0; move m when c do y := d; } require r = e + f;"
        self.assertEqual(whats(text), ["unknown name: a", "unknown name: e"])

    def test_list_is_new_each_time(self):
        for text in ("const k = a;", "const k = 1;", "const"):
            first, second = problems(text), problems(text)
            self.assertIsNot(first, second)
            first.append(None)
            self.assertEqual(problems(text), second)

    def test_kinds_of_values(self):
        for text in ("const k = a;", "const"):
            found = problems(text)
            self.assertIs(type(found), list)
            self.assertIs(type(found[0]), tuple)
            self.assertEqual([type(value) for value in found[0]], [int, int, str])


class TestNames(unittest.TestCase):
    """[17] 1 and 2, [11]."""

    def test_too_many_names(self):
        self.assertEqual(whats(consts(100) + "const k = 1;"), [])
        self.assertEqual(whats(consts(101) + "const k = 1;"), ["too many names"])
        self.assertEqual(whats(consts(103)), ["too many names"] * 2)

    def test_each_kind_of_item_counts(self):
        for item in ("sensor s = 1;", "define d = 1;", "require r = true;", "part p { move m; }"):
            self.assertEqual(whats(consts(99) + item + "const k = 1;"), [])
            self.assertEqual(whats(consts(100) + item + "const k = 1;"), ["too many names"])
            self.assertEqual(whats(consts(101) + item), ["too many names"])

    def test_named_values_count(self):
        part = "part p { var m : {a, b}; var x : 0..1; var n : {d}; move m; }"
        self.assertEqual(whats(consts(96) + part + "const k = 1;"), [])
        self.assertEqual(whats(consts(97) + part + "const k = 1;"), ["too many names"])
        self.assertEqual(whats(consts(100) + part), [])

    def test_items_with_a_problem_of_declaration_do_not_count(self):
        for item in ("const bad = a;", "const c0 = 1;", "part p { var m : {a, b, a}; }"):
            self.assertEqual(len(whats(consts(100) + item + "const k = 1;")), 1)
            self.assertEqual(len(whats(consts(100) + "const k = 1;" + item)), 1)

    def test_items_with_another_problem_count(self):
        for item in ("sensor s = true;", "define d = a;", "require r = 1;", "part p { }"):
            self.assertEqual(whats(consts(100) + item + "const k = 1;")[1:], ["too many names"])

    def test_too_many_names_comes_before_declared_twice(self):
        self.assertEqual(whats(consts(101) + "const c0 = a;"), ["too many names"])

    def test_declared_twice(self):
        items = ("const n = 1;", "sensor n = 1;", "define n = true;", "require n = true;", "part n { move m; }",
                 "part q { var x : {l, n}; move m; }")
        for one in items:
            for other in items[:-1]:
                self.assertEqual(whats(one + other), ["declared twice: n"])
        for one in items[:-1]:
            self.assertEqual(whats(one + items[-1]), ["declared twice: n"])

    def test_declared_twice_comes_before_other_problems(self):
        self.assertEqual(whats("const n = 1; const n = a; sensor n = a; require n = 1; part n { var x : 1..0; }"),
                         ["declared twice: n"] * 4)

    def test_item_with_a_problem_declares_nothing(self):
        self.assertEqual(whats("const n = a; const n = 1; require r = n = 1;"), ["unknown name: a"])
        self.assertEqual(whats("const n = 1; const n = 2; const n = 3;"), ["declared twice: n"] * 2)
        text = "part p { var m : {a, b}; var x : 1..0; } part p { var m : {a, b}; move m; } require r = m = a;"
        self.assertEqual(whats(text), ["empty range: x"])
        text = "part p { var m : {a, b, a}; } const a = 1; const p = a;"
        self.assertEqual(whats(text), ["declared twice: a"])

    def test_item_with_another_problem_is_declared(self):
        self.assertEqual(whats("define d = a; const d = 1;"), ["unknown name: a", "declared twice: d"])
        self.assertEqual(whats("sensor s = true; define s = true;"), ["expected a number", "declared twice: s"])
        self.assertEqual(whats("part p { var m : {v}; } const v = 1; const p = 1;"),
                         ["no moves: p", "declared twice: v", "declared twice: p"])

    def test_names_of_variables_and_moves_are_no_names_of_items(self):
        self.assertEqual(whats("part p { var x : 0..1; move m; } const x = 1; const m = 1;"), [])
        self.assertEqual(whats("part p { var x : 0..1; move x; } part q { var x : 0..1; move x; }"), [])


class TestConstants(unittest.TestCase):
    """[17] 3."""

    def test_problem_of_the_expression(self):
        self.assertEqual(whats("const k = a;"), ["unknown name: a"])
        self.assertEqual(whats("const k = 1 + true;"), ["expected a number"])
        self.assertEqual(whats("const k = (not 1);"), ["expected a condition"])
        self.assertEqual(whats("const k = 9999999 * 9999999;"), ["a number can get too great"])

    def test_expected_a_number(self):
        for text in ("true", "(1 < 2)", "(next true)", "(before true)"):
            self.assertEqual(whats(f"const k = {text};"), ["expected a number"])


class TestParts(unittest.TestCase):
    """[17] 4."""

    def part(self, pieces):
        return whats("const two = 2; part p { " + pieces + " move m; }")

    def test_too_many_parts(self):
        parts = "".join([f"part p{k} {{ move m; }} " for k in range(8)])
        self.assertEqual(whats(parts), [])
        self.assertEqual(whats(parts + "part p { move m; }"), ["too many parts"])
        self.assertEqual(whats(parts + "part p { var x : a..0; } part q { }"), ["too many parts"] * 2)
        self.assertEqual(whats(parts + "part p0 { move m; }"), ["declared twice: p0"])

    def test_parts_with_a_problem_of_declaration_do_not_count(self):
        parts = "".join([f"part p{k} {{ move m; }} " for k in range(7)])
        self.assertEqual(whats(parts + "part a { var x : 1..0; } part b { move m; }"), ["empty range: x"])
        self.assertEqual(whats(parts + "part a { } part b { move m; }"), ["no moves: a", "too many parts"])

    def test_variable_declared_twice(self):
        self.assertEqual(self.part("var x : 0..1; var x : 0..1;"), ["declared twice: x"])
        self.assertEqual(self.part("var x : 0..1; var y : 0..1; var x : {a};"), ["declared twice: x"])
        self.assertEqual(self.part("var x : {a}; var x : a..b;"), ["declared twice: x"])
        self.assertEqual(self.part("var x : {a}; var x : {a};"), ["declared twice: x"])
        self.assertEqual(self.part("var x : 1..0; var x : 0..1;"), ["empty range: x"])
        self.assertEqual(self.part("var x : 0..1; move x;"), [])

    def test_problems_of_a_range_in_their_order(self):
        self.assertEqual(self.part("var x : a..b from c..d;"), ["unknown name: a"])
        self.assertEqual(self.part("var x : true..b from c..d;"), ["expected a number"])
        self.assertEqual(self.part("var x : 1..b from c..d;"), ["unknown name: b"])
        self.assertEqual(self.part("var x : 1..(1 < 2) from c..d;"), ["expected a number"])
        self.assertEqual(self.part("var x : 1..0 from c..d;"), ["unknown name: c"])
        self.assertEqual(self.part("var x : 1..0 from true..d;"), ["expected a number"])
        self.assertEqual(self.part("var x : 1..0 from 5..d;"), ["unknown name: d"])
        self.assertEqual(self.part("var x : 1..0 from 5..false;"), ["expected a number"])
        self.assertEqual(self.part("var x : 1..0 from 5..4;"), ["empty range: x"])
        self.assertEqual(self.part("var x : 0..1 from 5..4;"), ["wrong first values: x"])
        self.assertEqual(self.part("var x : 1 + true..b;"), ["expected a number"])
        self.assertEqual(self.part("var x : 9999999 * 9999999..b;"), ["a number can get too great"])

    def test_empty_range(self):
        self.assertEqual(self.part("var x : 2..two;"), [])
        self.assertEqual(self.part("var x : 3..two;"), ["empty range: x"])
        self.assertEqual(self.part("var x : -two..-3;"), ["empty range: x"])

    def test_wrong_first_values(self):
        for first in ("0", "3", "0..3", "1..2", "2..2", "0..0", "3..3"):
            self.assertEqual(self.part(f"var x : 0..3 from {first};"), [], first)
        for first in ("-1", "4", "-1..2", "0..4", "2..1", "3..0", "4..4", "-1..-1", "4..3"):
            self.assertEqual(self.part(f"var x : 0..3 from {first};"), ["wrong first values: x"], first)

    def test_problems_of_named_values_in_their_order(self):
        names = ", ".join([f"n{k}" for k in range(20)])
        self.assertEqual(self.part("var x : {" + names + "};"), [])
        self.assertEqual(self.part("var x : {" + names + ", n0} from a;"), ["too many values: x"])
        self.assertEqual(self.part("var x : {" + names + ", more};"), ["too many values: x"])
        self.assertEqual(self.part("var x : {a, a, two} from b;"), ["declared twice: a"])
        self.assertEqual(self.part("var x : {a, two, a} from b;"), ["declared twice: two"])
        self.assertEqual(self.part("var x : {a, c} from b..d;"), ["unknown name: b"])
        self.assertEqual(self.part("var x : {a, c} from true..d;"), ["expected a number"])
        self.assertEqual(self.part("var x : {a, c} from 7..d;"), ["unknown name: d"])
        self.assertEqual(self.part("var x : {a, c} from 7..true;"), ["expected a number"])
        self.assertEqual(self.part("var x : {a, c} from 7..6;"), ["wrong first values: x"])

    def test_named_values_declared_before(self):
        self.assertEqual(self.part("var x : {p};"), ["declared twice: p"])
        self.assertEqual(self.part("var x : {a}; var y : {b, a};"), ["declared twice: a"])
        self.assertEqual(self.part("var x : {two};"), ["declared twice: two"])
        self.assertEqual(self.part("var x : {x, m};"), [])
        self.assertEqual(whats("part p { var x : {a}; move m; } part q { var x : {a}; move m; }"),
                         ["declared twice: a"])
        self.assertEqual(whats("part p { var x : {a}; move m; } const a = 1;"), ["declared twice: a"])

    def test_first_values_of_named_values(self):
        for first in ("a", "c", "a..c", "b..b", "0", "2", "0..b", "two"):
            self.assertEqual(self.part("var x : {a, b, c} from " + first + ";"), [], first)
        for first in ("b..a", "3", "-1", "a..3", "c + 1", "-1..b"):
            self.assertEqual(self.part("var x : {a, b, c} from " + first + ";"), ["wrong first values: x"], first)

    def test_variables_one_after_the_other(self):
        self.assertEqual(self.part("var x : 1..0; var y : a..b;"), ["empty range: x"])
        self.assertEqual(self.part("var x : 0..1; var y : a..b;"), ["unknown name: a"])
        self.assertEqual(self.part("var x : 0..1 from 2; var y : {p};"), ["wrong first values: x"])

    def test_too_many_variables(self):
        self.assertEqual(self.part(variables(12)), [])
        self.assertEqual(self.part(variables(13)), ["too many variables"])
        self.assertEqual(self.part(variables(13) + "var y : 1..0;"), ["empty range: y"])
        self.assertEqual(self.part(variables(13) + "var v0 : 0..1;"), ["declared twice: v0"])
        eight = "part q { " + variables(8) + " move m; } "
        self.assertEqual(whats(eight + "part p { " + variables(4) + " move m; }"), [])
        self.assertEqual(whats(eight + "part p { " + variables(5) + " move m; }"), ["too many variables"])
        self.assertEqual(whats(eight + "part p { " + variables(5) + " } part r { " + variables(4) + " move m; }"),
                         ["too many variables"])
        self.assertEqual(whats("part q { " + variables(8) + " } part p { " + variables(5) + " move m; }"),
                         ["no moves: q", "too many variables"])
        self.assertEqual(whats("part q { " + variables(11) + " var m : {a}; move m; } part p { var x : 0..1; move m; }"),
                         ["too many variables"])

    def test_problems_of_declaration_come_before_those_of_moves(self):
        self.assertEqual(whats("part p { move m when a; move m; var x : 1..0; }"), ["empty range: x"])


class TestMoves(unittest.TestCase):
    """[17] 5."""

    def part(self, moves, before=""):
        return whats(before + "part p { var x : 0..9; var y : 0..9; " + moves + " }")

    def test_no_moves(self):
        self.assertEqual(whats("part pump { }"), ["no moves: pump"])
        self.assertEqual(self.part(""), ["no moves: p"])
        self.assertEqual(self.part("move m;"), [])

    def test_move_declared_twice(self):
        self.assertEqual(self.part("move m; move n; move m;"), ["declared twice: m"])
        self.assertEqual(self.part("move m; move m when a;"), ["declared twice: m"])
        self.assertEqual(self.part("move m; move n when a; move m;"), ["unknown name: a"])

    def test_too_many_moves(self):
        moves = " ".join([f"move m{k};" for k in range(12)])
        self.assertEqual(self.part(moves), [])
        self.assertEqual(self.part(moves + "move m when a;"), ["too many moves"])
        self.assertEqual(self.part(moves + "move m0;"), ["declared twice: m0"])

    def test_guards(self):
        self.assertEqual(self.part("move m when x < 3 and true;"), [])
        self.assertEqual(self.part("move m when a;"), ["unknown name: a"])
        self.assertEqual(self.part("move m when x and true;"), ["expected a condition"])
        for text in ("x", "3", "next true", "can x = 1", "before true", "once x = 1", "true since true",
                     "x = 1 and next true", "not once true"):
            self.assertEqual(self.part(f"move m when {text};"), ["expected a condition about now"], text)
        self.assertEqual(self.part("move m when a do z := b;"), ["unknown name: a"])
        self.assertEqual(self.part("move m when x do z := b;"), ["expected a condition about now"])

    def test_changes_in_their_order(self):
        self.assertEqual(self.part("move m do z := a;"), ["not a variable of this part: z"])
        self.assertEqual(self.part("move m do x := 1, x := a;"), ["set twice: x"])
        self.assertEqual(self.part("move m do x := a, x := 1;"), ["unknown name: a"])
        self.assertEqual(self.part("move m do x := a..b;"), ["unknown name: a"])
        self.assertEqual(self.part("move m do x := true..b;"), ["expected a number"])
        self.assertEqual(self.part("move m do x := 1..b;"), ["unknown name: b"])
        self.assertEqual(self.part("move m do x := 1..(x < 1);"), ["expected a number"])
        self.assertEqual(self.part("move m do x := true, z := 1;"), ["expected a number"])
        self.assertEqual(self.part("move m do z := 1, x := true;"), ["not a variable of this part: z"])
        self.assertEqual(self.part("move m do x := 1, y := 2, x := 3;"), ["set twice: x"])
        self.assertEqual(self.part("move m do x := x + y..9, y := x;"), [])

    def test_changes_of_other_things(self):
        before = "const k = 1; part q { var w : {v}; move m; } "
        for name in ("k", "w", "v", "q", "p", "m", "z"):
            self.assertEqual(self.part(f"move m do {name} := 1;", before), [f"not a variable of this part: {name}"])

    def test_values_of_changes(self):
        before = "const k = 1; part q { var w : {v}; move m; } define d = w + 1; "
        self.assertEqual(self.part("move m do x := k + w * v..d, y := q.w + p.x;", before), [])

    def test_values_need_not_lie_in_the_range(self):
        self.assertEqual(self.part("move m do x := 100..-5;"), [])

    def test_moves_one_after_the_other(self):
        self.assertEqual(self.part("move m do z := 1; move n when a;"), ["not a variable of this part: z"])
        self.assertEqual(self.part("move m; move n when a;"), ["unknown name: a"])


class TestSensors(unittest.TestCase):
    """[17] 6."""

    def test_expression_of_a_sensor(self):
        self.assertEqual(whats("sensor s = a;"), ["unknown name: a"])
        self.assertEqual(whats("sensor s = true;"), ["expected a number"])
        self.assertEqual(whats("sensor s = 1 + true;"), ["expected a number"])
        self.assertEqual(whats("sensor s = (before true) +- a;"), ["expected a number"])
        self.assertEqual(whats("sensor s = a +- b;"), ["unknown name: a"])

    def test_error_of_a_sensor(self):
        self.assertEqual(whats("sensor s = 1 +- a;"), ["unknown name: a"])
        self.assertEqual(whats("sensor s = 1 +- true;"), ["expected a number"])
        self.assertEqual(whats("sensor s = 1 +- (1 < 2) lossy;"), ["expected a number"])
        self.assertEqual(whats("sensor s = 1 +- 9999999 * 9999999;"), ["a number can get too great"])
        for error in ("0", "1", "1000", "999 + 1", "-1 + 1"):
            self.assertEqual(whats(f"sensor s = 1 +- {error};"), [], error)
        for error in ("-1", "1001", "0 - 1", "9999999"):
            self.assertEqual(whats(f"sensor s = 1 +- {error};"), ["wrong error"], error)

    def test_too_many_sensors(self):
        sensors = "".join([f"sensor s{k} = 1; " for k in range(8)])
        self.assertEqual(whats(sensors), [])
        self.assertEqual(whats(sensors + "sensor s = a;"), ["too many sensors"])
        self.assertEqual(whats(sensors + "sensor s = 1; sensor t = 1;"), ["too many sensors"] * 2)
        self.assertEqual(whats(sensors + "sensor s0 = 1;"), ["declared twice: s0"])

    def test_sensors_with_problems_do_not_count(self):
        sensors = "".join([f"sensor s{k} = 1; " for k in range(7)])
        for bad in ("sensor s = a;", "sensor s = 1 +- -1;", "sensor s0 = 1;", "sensor s = true;"):
            self.assertEqual(len(whats(sensors + bad + "sensor t = 1;")), 1, bad)
            self.assertEqual(len(whats(bad + sensors + "sensor t = 1;")), 1, bad)
            self.assertEqual(whats(sensors + bad + "sensor t = 1; sensor u = 1;")[1:], ["too many sensors"])


class TestDefinitionsAndRequirements(unittest.TestCase):
    """[17] 7 and 8."""

    def test_definitions_may_be_of_each_kind(self):
        for text in ("1", "true", "next true", "before true"):
            self.assertEqual(whats(f"define d = {text};"), [])

    def test_problem_of_a_definition(self):
        self.assertEqual(whats("define d = a;"), ["unknown name: a"])
        self.assertEqual(whats("define d = 1 and true;"), ["expected a condition"])
        self.assertEqual(whats("define d = next before true;"), ["what was before cannot stand here"])
        self.assertEqual(whats("define d = once[1001] true;"), ["too many ticks"])
        self.assertEqual(whats("define d = 9999999 * 9999999;"), ["a number can get too great"])

    def test_definition_with_a_problem_stands_for_nothing(self):
        self.assertEqual(whats("define d = a; define e = d; require r = e;"),
                         ["unknown name: a", "unknown name: d", "unknown name: e"])

    def test_requirements(self):
        for text in ("true", "1 = 1", "next true", "before true", "always[3] true"):
            self.assertEqual(whats(f"require r = {text};"), [])
        self.assertEqual(whats("require r = 1;"), ["expected a condition"])
        self.assertEqual(whats("define d = 1; require r = d;"), ["expected a condition"])
        self.assertEqual(whats("require r = a;"), ["unknown name: a"])
        self.assertEqual(whats("require r = 1 + true;"), ["expected a number"])


class TestMeaningOfItems(unittest.TestCase):
    """[16]."""

    def test_first_values(self):
        text = ("part p { var a : 1..4; var b : 1..4 from 2; var c : 1..4 from 2..3; var d : {u, v, w}; "
                "var e : {x, y, z} from y; var f : {r, s, t} from s..t; move m; }")
        (rows, _, _), _, _ = compile_source(text)
        self.assertEqual(rows, (("p.a", 1, 4, 1, 4), ("p.b", 1, 4, 2, 2), ("p.c", 1, 4, 2, 3),
                                ("p.d", 0, 2, 0, 2), ("p.e", 0, 2, 1, 1), ("p.f", 0, 2, 1, 2)))

    def test_facts_are_definitions_that_are_conditions_or_facts(self):
        text = "define a = 1; define b = true; define c = next b; define d = before b; define e = b and c;"
        self.assertEqual([name for name, _ in compile_source(text)[1]], ["b", "c", "e"])


if __name__ == "__main__":
    unittest.main()
