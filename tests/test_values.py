"""Points 3 and 24: which values are equal, what signs make of values, and which failure is told."""

import unittest

from livestead.values import operate

WRONG_KIND = ("failure", "wrong kind")
BY_NOTHING = ("failure", "by nothing")
TOO_LARGE = ("failure", "too large")
GREATEST = 1000000000
NONE_AND_TRUTHS = (None, True, False)
NUMBERS = (0, 1, -1, 7, GREATEST, -GREATEST)
TEXTS = ("", "1", "True", "a", "object", "x" * 200)
OBJECTS = (("object", 1), ("object", 2), ("object", 0))
VALUES = NONE_AND_TRUTHS + NUMBERS + TEXTS + OBJECTS
SIGNS = ("=", "<", "<=", "+", "-", "*", "/")


def kind_of(value):
    """The kind of a value, told without the tests that the program uses."""
    if value in NONE_AND_TRUTHS and str(value) in ("None", "True", "False"):
        return "truth"
    return {"int": "number", "str": "text", "tuple": "object"}[value.__class__.__name__]


class ValuesCase(unittest.TestCase):
    def comes_to(self, sign, left, right, value):
        outcome = operate(sign, left, right)
        self.assertEqual(outcome, ("value", value), (sign, left, right))
        # A truth must not be told as a number, which Python takes for equal.
        self.assertIs(outcome[1].__class__, value.__class__, (sign, left, right))

    def fails(self, sign, left, right, outcome):
        self.assertEqual(operate(sign, left, right), outcome, (sign, left, right))


class Equal(ValuesCase):
    def test_the_same(self):
        for value in VALUES:
            self.comes_to("=", value, value, True)

    def test_others(self):
        for k, left in enumerate(VALUES):
            for m, right in enumerate(VALUES):
                self.comes_to("=", left, right, k == m)

    def test_made_anew(self):
        self.comes_to("=", "ab", "".join(["a", "b"]), True)
        self.comes_to("=", ("object", 12), tuple(["object", 12]), True)
        self.comes_to("=", 10 ** 9, int("1000000000"), True)

    def test_truths_and_numbers(self):
        self.comes_to("=", True, 1, False)
        self.comes_to("=", 1, True, False)
        self.comes_to("=", False, 0, False)
        self.comes_to("=", 0, False, False)
        self.comes_to("=", True, True, True)
        self.comes_to("=", False, False, True)
        self.comes_to("=", True, False, False)
        self.comes_to("=", 1, 1, True)

    def test_none(self):
        self.comes_to("=", None, None, True)
        for value in (False, 0, "", "none", "None"):
            self.comes_to("=", None, value, False)
            self.comes_to("=", value, None, False)

    def test_numbers_and_texts(self):
        self.comes_to("=", 12, "12", False)
        self.comes_to("=", "12", 12, False)
        self.comes_to("=", "a", "A", False)
        self.comes_to("=", "a", "a ", False)

    def test_objects(self):
        self.comes_to("=", ("object", 3), ("object", 3), True)
        self.comes_to("=", ("object", 3), ("object", 4), False)
        self.comes_to("=", ("object", 3), 3, False)
        self.comes_to("=", "object", ("object", 3), False)


class Numbers(ValuesCase):
    def test_sums(self):
        self.comes_to("+", 2, 3, 5)
        self.comes_to("-", 2, 3, -1)
        self.comes_to("*", 2, 3, 6)
        self.comes_to("*", -2, 3, -6)
        self.comes_to("+", -2, 2, 0)
        self.comes_to("*", 0, -3, 0)

    def test_rounds_down(self):
        self.comes_to("/", 7, 2, 3)
        self.comes_to("/", -7, 2, -4)
        self.comes_to("/", 7, -2, -4)
        self.comes_to("/", -7, -2, 3)
        self.comes_to("/", 6, -2, -3)
        self.comes_to("/", -6, 2, -3)
        self.comes_to("/", 1, 2, 0)
        self.comes_to("/", -1, 2, -1)
        self.comes_to("/", 1, -GREATEST, -1)
        self.comes_to("/", 0, -5, 0)

    def test_order(self):
        for sign, rows in (("<", ((1, 2, True), (2, 2, False), (3, 2, False), (-3, 2, True))),
                           ("<=", ((1, 2, True), (2, 2, True), (3, 2, False), (-3, -2, True)))):
            for left, right, value in rows:
                self.comes_to(sign, left, right, value)

    def test_numbers_are_not_compared_as_texts(self):
        self.comes_to("<", 9, 10, True)
        self.comes_to("<=", 10, 9, False)

    def test_greatest(self):
        self.comes_to("+", GREATEST - 1, 1, GREATEST)
        self.comes_to("-", 1 - GREATEST, 1, -GREATEST)
        self.comes_to("*", 100000, 10000, GREATEST)
        self.comes_to("*", -100000, 10000, -GREATEST)
        self.comes_to("/", GREATEST, -1, -GREATEST)
        self.comes_to("/", -GREATEST, -1, GREATEST)

    def test_too_large(self):
        self.fails("+", GREATEST, 1, TOO_LARGE)
        self.fails("-", GREATEST, -1, TOO_LARGE)
        self.fails("-", -GREATEST, 1, TOO_LARGE)
        self.fails("+", -GREATEST, -1, TOO_LARGE)
        self.fails("+", -1, -GREATEST, TOO_LARGE)
        self.fails("*", GREATEST, GREATEST, TOO_LARGE)
        self.fails("*", GREATEST, -2, TOO_LARGE)
        self.fails("*", 31623, 31623, TOO_LARGE)
        self.fails("*", -31623, 31623, TOO_LARGE)

    def test_beyond_the_greatest(self):
        self.comes_to("-", GREATEST + 1, 1, GREATEST)
        self.fails("-", GREATEST + 1, 0, TOO_LARGE)
        self.comes_to("<", GREATEST, GREATEST + 1, True)
        self.comes_to("=", GREATEST + 1, GREATEST + 1, True)


class ByNothing(ValuesCase):
    def test_numbers(self):
        for number in NUMBERS:
            self.fails("/", number, 0, BY_NOTHING)

    def test_wrong_kind_comes_first(self):
        for value in NONE_AND_TRUTHS + TEXTS + OBJECTS:
            self.fails("/", value, 0, WRONG_KIND)

    def test_by_nothing_comes_ahead_of_too_large(self):
        self.fails("/", GREATEST + 5, 0, BY_NOTHING)

    def test_false_and_none_are_not_nothing(self):
        for value in (False, None, "", "0"):
            self.fails("/", 1, value, WRONG_KIND)
        self.fails("/", 1, True, WRONG_KIND)

    def test_other_signs(self):
        self.comes_to("*", 5, 0, 0)
        self.comes_to("+", 5, 0, 5)
        self.comes_to("-", 5, 0, 5)
        self.comes_to("<", 5, 0, False)


class Texts(ValuesCase):
    def test_joined(self):
        self.comes_to("+", "ab", "cd", "abcd")
        self.comes_to("+", "", "", "")
        self.comes_to("+", "1", "2", "12")
        self.comes_to("+", " ", "a", " a")

    def test_longest(self):
        self.comes_to("+", "a" * 120, "b" * 80, "a" * 120 + "b" * 80)
        self.comes_to("+", "a" * 200, "", "a" * 200)
        self.comes_to("+", "", "a" * 200, "a" * 200)
        self.fails("+", "a" * 120, "b" * 81, TOO_LARGE)
        self.fails("+", "a" * 200, "b", TOO_LARGE)
        self.fails("+", "b", "a" * 200, TOO_LARGE)
        self.fails("+", "a" * 200, "b" * 200, TOO_LARGE)

    def test_order(self):
        rising = ["", " ", "!", "0", "10", "9", "A", "AB", "Z", "_", "a", "a ", "aa", "b", "~"]
        for k, left in enumerate(rising):
            for m, right in enumerate(rising):
                self.comes_to("<", left, right, k < m)
                self.comes_to("<=", left, right, k <= m)

    def test_other_signs(self):
        for sign in ("-", "*", "/"):
            for right in TEXTS:
                self.fails(sign, "a", right, WRONG_KIND)


class Kinds(ValuesCase):
    """Each sign with operands of every kind."""

    def test_kinds_that_a_sign_takes(self):
        taken = {"=": None, "<": ("number", "text"), "<=": ("number", "text"),
                 "+": ("number", "text"), "-": ("number",), "*": ("number",), "/": ("number",)}
        for sign in SIGNS:
            for left in VALUES:
                for right in VALUES:
                    kinds = (kind_of(left), kind_of(right))
                    wrong = taken[sign] is not None and (
                        kinds[0] != kinds[1] or kinds[0] not in taken[sign])
                    self.assertEqual(operate(sign, left, right) == WRONG_KIND, wrong,
                                     (sign, left, right))

    def test_truths_are_no_numbers(self):
        for sign in ("+", "-", "*", "/", "<", "<="):
            self.fails(sign, True, 1, WRONG_KIND)
            self.fails(sign, 1, True, WRONG_KIND)
            self.fails(sign, True, True, WRONG_KIND)
            self.fails(sign, False, True, WRONG_KIND)

    def test_wrong_kind_comes_ahead_of_too_large(self):
        self.fails("*", "a" * 200, 2, WRONG_KIND)
        self.fails("+", "a" * 200, 2, WRONG_KIND)
        self.fails("+", GREATEST, True, WRONG_KIND)

    def test_results_are_values(self):
        for sign in SIGNS:
            for left in VALUES:
                for right in VALUES:
                    word, told = operate(sign, left, right)
                    if word == "failure":
                        self.assertIn(told, ("wrong kind", "by nothing", "too large"))
                    else:
                        self.assertEqual(word, "value")
                        self.assertIn(kind_of(told), ("truth", "number", "text"))


if __name__ == "__main__":
    unittest.main()
