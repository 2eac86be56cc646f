"""The values of terms and the truth of conditions: point [18], and the interface of wardens/terms.py."""

import unittest

from wardens.terms import is_true, value_of

VALUES = (4, -7, 0)
V0, V1, V2 = ("var", 0), ("var", 1), ("var", 2)
TRUE, FALSE = ("true",), ("false",)


def num(n):
    return ("num", n)


class TestValueOf(unittest.TestCase):
    def test_numbers_and_variables(self):
        for n in (0, 3, -5, 10 ** 9, -10 ** 9):
            self.assertEqual(value_of(num(n), ()), n)
        self.assertEqual([value_of(v, VALUES) for v in (V0, V1, V2)], [4, -7, 0])

    def test_operators(self):
        self.assertEqual(value_of(("neg", V0), VALUES), -4)
        self.assertEqual(value_of(("neg", V1), VALUES), 7)
        self.assertEqual(value_of(("neg", V2), VALUES), 0)
        self.assertEqual(value_of(("add", V0, V1), VALUES), -3)
        self.assertEqual(value_of(("sub", V0, V1), VALUES), 11)
        self.assertEqual(value_of(("sub", V1, V0), VALUES), -11)
        self.assertEqual(value_of(("mul", V0, V1), VALUES), -28)
        self.assertEqual(value_of(("min", V0, V1), VALUES), -7)
        self.assertEqual(value_of(("min", V1, V0), VALUES), -7)
        self.assertEqual(value_of(("max", V0, V1), VALUES), 4)
        self.assertEqual(value_of(("max", V1, V0), VALUES), 4)

    def test_nested_terms(self):
        term = ("sub", ("mul", ("add", V0, num(1)), ("neg", V1)), ("min", ("max", V2, num(2)), V0))
        self.assertEqual(value_of(term, VALUES), 33)

    def test_values_may_be_a_list(self):
        self.assertEqual(value_of(("add", V0, V1), [1, 2]), 3)

    def test_200_levels(self):
        left, right = num(1), num(1)
        for _ in range(199):
            left = ("add", left, V0)
            right = ("neg", right)
        self.assertEqual(value_of(left, (2,)), 399)
        self.assertEqual(value_of(right, ()), -1)

    def test_nothing_is_modified(self):
        values = [1, 2]
        value_of(("mul", V0, V1), values)
        is_true(("less", V0, V1), values)
        self.assertEqual(values, [1, 2])


class TestIsTrue(unittest.TestCase):
    def test_truth(self):
        self.assertIs(is_true(TRUE, ()), True)
        self.assertIs(is_true(FALSE, ()), False)

    def test_less_and_same(self):
        for a in (-1, 0, 1):
            for b in (-1, 0, 1):
                self.assertIs(is_true(("less", num(a), num(b)), ()), a < b)
                self.assertIs(is_true(("same", num(a), num(b)), ()), a == b)
        self.assertIs(is_true(("less", V1, V0), VALUES), True)
        self.assertIs(is_true(("same", V2, ("add", num(7), V1)), VALUES), True)

    def test_not_and_or(self):
        self.assertIs(is_true(("not", TRUE), ()), False)
        self.assertIs(is_true(("not", FALSE), ()), True)
        for a in (TRUE, FALSE):
            for b in (TRUE, FALSE):
                self.assertIs(is_true(("and", a, b), ()), a == TRUE and b == TRUE)
                self.assertIs(is_true(("or", a, b), ()), a == TRUE or b == TRUE)

    def test_nested_conditions(self):
        condition = ("or", ("and", ("less", V0, num(4)), TRUE), ("not", ("same", ("neg", V1), num(7))))
        self.assertIs(is_true(condition, VALUES), False)
        self.assertIs(is_true(condition, [3, -7]), True)
        self.assertIs(is_true(condition, (4, 7)), True)

    def test_200_levels(self):
        condition = ("less", V0, num(1))
        for _ in range(199):
            condition = ("not", condition)
        self.assertIs(is_true(condition, (0,)), False)
        self.assertIs(is_true(condition, (1,)), True)
        row = TRUE
        for _ in range(199):
            row = ("and", row, ("same", V0, V0))
        self.assertIs(is_true(row, (0,)), True)


if __name__ == "__main__":
    unittest.main()
