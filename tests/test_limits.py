"""Point 10: how many parameters, variables and arguments there may be."""

import unittest

from livestead.reading import read_expression, read_method
from tests.cases import ReadingCase

EIGHT = "a, b, c, d, e, f, g, h"
NAMES = ("a", "b", "c", "d", "e", "f", "g", "h")


class Limits(ReadingCase):
    def test_parameters(self):
        self.assertEqual(read_method(f"method m({EIGHT}) end")[2], NAMES)
        self.no_method(f"method m({EIGHT}, ^i) end")
        self.no_method(f"method m({EIGHT}, ^i, j) end")
        self.no_method(f"method m({EIGHT}, ^i")
        self.no_method(f"method m({EIGHT}, ^a) end")
        self.no_method(f"method m({EIGHT},^")
        self.no_method(f"method m({EIGHT}, ^) end")
        self.no_method(f"method m({EIGHT}, ^1) end")

    def test_variables(self):
        self.assertEqual(read_method(f"method m() var {EIGHT}; end")[3], NAMES)
        self.no_method(f"method m() var {EIGHT}, ^i; end")
        self.no_method(f"method m() var {EIGHT}, ^i, j; end")
        self.no_method(f"method m() var {EIGHT}, ^i")
        self.no_method(f"method m() var {EIGHT}, ^h; end")
        self.no_method(f"method m() var {EIGHT},^")
        self.no_method(f"method m() var {EIGHT}, ^; end")

    def test_parameters_and_variables_are_counted_apart(self):
        tree = read_method(f"method m({EIGHT}) var i, j, k, l, m, n, o, p; end")
        self.assertEqual((len(tree[2]), len(tree[3])), (8, 8))
        self.no_method(f"method m({EIGHT}) var i, j, k, l, m, n, o, p, ^q; end")

    def test_arguments(self):
        tree = read_expression("x.m(1, 2, 3, 4, 5, 6, 7, 8)")
        self.assertEqual(tree[3], tuple(("plain", n) for n in range(1, 9)))
        for nine in ("9", "i", "not i", "-9", "(9)", "{}", "x.m()", "9 + 9", "'9'", "new Nine"):
            self.no_expression(f"x.m(1, 2, 3, 4, 5, 6, 7, 8, ^{nine})")
            self.no_expression(f"super.m(1, 2, 3, 4, 5, 6, 7, 8, ^{nine}, 10)")
            self.no_expression(f"x.m(1, 2, 3, 4, 5, 6, 7, 8, ^{nine}")
        self.no_expression("x.m(1, 2, 3, 4, 5, 6, 7, 8,^")
        self.no_expression("x.m(1, 2, 3, 4, 5, 6, 7, 8, ^)")
        self.no_expression("x.m(1, 2, 3, 4, 5, 6, 7, 8, ^;")

    def test_arguments_of_super(self):
        tree = read_expression("super.m(1, 2, 3, 4, 5, 6, 7, 8)")
        self.assertEqual(tree[2], tuple(("plain", n) for n in range(1, 9)))
        self.no_expression("super.m(1, 2, 3, 4, 5, 6, 7, 8, ^9)")
        self.no_expression("super.m(1, 2, 3, 4, 5, 6, 7, 8,^")

    def test_arguments_of_a_block_that_is_called(self):
        tree = read_expression("{}.call(1, 2, 3, 4, 5, 6, 7, 8)")
        self.assertEqual(len(tree[3]), 8)

    def test_each_send_is_counted_apart(self):
        read_expression("x.m(1, 2, 3, 4, y.m(1, 2, 3, 4, 5, 6, 7, 8), 6, 7, 8)")
        self.no_expression("x.m(1, 2, 3, 4, y.m(1, 2, 3, 4, 5, 6, 7, 8, ^9), 6, 7, 8)")
        self.no_expression("x.m(1, 2, 3, 4, y.m(1, 2, 3, 4, 5, 6, 7, 8), 6, 7, 8, ^9)")
        read_expression("x.m(1, 2, 3, 4, 5, 6, 7, 8).m(1, 2, 3, 4, 5, 6, 7, 8)")

    def test_parameters_of_a_block(self):
        self.assertEqual(read_expression("{a, b, c, d | }")[1], ("a", "b", "c", "d"))
        self.no_expression("{a, b, c, d, ^e | }")
        self.no_expression("{a, b, c, d, ^e, f | }")
        self.no_expression("{a, b, c, d, ^e}")
        self.no_expression("{a, b, c, d, ^e")
        self.no_expression("{a, b, c, d, ^a | }")
        self.no_expression("{a, b, c, d,^")
        self.no_expression("{a, b, c, d, ^| }")
        self.no_expression("{a, b, c, d, ^}")

    def test_each_block_is_counted_apart(self):
        read_expression("{a, b, c, d | {e, f, g, h | }}")
        self.no_expression("{a, b, c, d | {e, f, g, h, ^i | }}")

    def test_statements_are_not_counted(self):
        self.assertEqual(len(read_method("method m() a" + "; a" * 300 + " end")[4]), 301)


if __name__ == "__main__":
    unittest.main()
