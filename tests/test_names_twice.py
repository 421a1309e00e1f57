"""Point 11: names that occur twice."""

import unittest

from livestead.reading import read_expression, read_method
from tests.cases import ReadingCase, run


class Twice(ReadingCase):
    def method(self, text, name):
        self.twice(read_method, text, name)

    def block(self, text, name):
        self.twice(read_expression, text, name)
        self.twice(read_method, "method f(a) give " + text + " end", name)

    def test_parameters(self):
        self.method("method f(a, a) end", "a")
        self.method("method f(b, a, a) end", "a")
        self.method("method f(a, b, a) end", "a")
        self.method("method f(c, b, a, d, e, g, h, c) end", "c")

    def test_variables(self):
        self.method("method f() var a, a; end", "a")
        self.method("method f() var b, a, a; end", "a")
        self.method("method f() var a, b, c, a; end", "a")
        self.method("method f(b) var a, a; end", "a")

    def test_across_both(self):
        self.method("method f(a) var a; end", "a")
        self.method("method f(a, b) var c, b; end", "b")
        self.method("method f(b, a) var a, b; end", "a")
        self.method("method f(a, b, c, d, e, g, h, i) var j, k, l, m, n, o, p, a; end", "a")

    def test_blocks(self):
        self.block("{a, a | }", "a")
        self.block("{b, a, a | a}", "a")
        self.block("{b, c, d, b | }", "b")
        self.block("{x | {y, y | }}", "y")
        self.block("1 + {y, y | }", "y")
        self.block("x.m(1, {y, y | }.call(1, 2))", "y")
        self.block("super.m({y, y | })", "y")
        self.block("{x | while true do x := {y, y | } end}", "y")

    def test_the_first_second_occurrence(self):
        self.method("method f(a, b, b, a) end", "b")
        self.method("method f(a, b, a, b) end", "a")
        self.method("method f(a, a, a) end", "a")
        self.method("method f(a, b) var b, a; end", "b")
        self.method("method f(a, b) var a, b; end", "a")
        self.method("method f(a, b, b) var a; end", "b")
        self.method("method f(a, b) var c, c, a, b; end", "c")
        self.block("{a, b, b, a | }", "b")
        self.block("{a, b, a, b | }", "a")

    def test_two_places(self):
        self.method("method f(a, a) {b, b | } end", "a")
        self.method("method f(a) var a; {b, b | } end", "a")
        self.method("method f() {b, b | }; {a, a | } end", "b")
        self.block("{b, b | {a, a | }}", "b")
        self.block("{b | {a, a | }; {b, b | }}", "a")
        self.block("{c, c | }.call({a, a | })", "c")
        self.block("{a, b | {c, c | }; {a, a | }}", "c")

    def test_it_is_told_only_if_all_else_is_correct(self):
        self.no_method("method f(a, a)^")
        self.no_method("method f(a, a) ^; end")
        self.no_method("method f(a, a) end ^a")
        self.no_expression("{a, a | ^")
        self.no_expression("{a, a | } ^{b, b | }")
        self.no_expression("{a, a ^b | }")

    def test_the_same_name_in_a_block_and_around_it(self):
        self.assertEqual(read_expression("{a | {a | a}}"),
                         ("block", ("a",), (("eval", ("block", ("a",), (run("a"),))),)))
        for text in ("method f(a) var b; {a | a}; {b | b}; {a, b | {b, a | }} end",
                     "method f(a) {a | }; {a | } end",
                     "method a(a) {a | a := a} end",
                     "method f() var b; {c | {b | {c | }}} end"):
            self.assertEqual(read_method(text)[0], "method")

    def test_other_names_may_occur_as_often_as_they_like(self):
        self.assertEqual(read_method("method a(b) a := b; b := a; try a catch b then a end end")[1], "a")
        self.assertEqual(read_method("method f(a) try catch a then end; b.a(a); super.a(a) end")[1], "f")

    def test_names_that_differ(self):
        self.assertEqual(read_method("method f(a, aA, aa) var a1, a2, b; {a, b | } end")[2],
                         ("a", "aA", "aa"))
        self.assertEqual(read_expression("{a, b, c, d | }")[1], ("a", "b", "c", "d"))


if __name__ == "__main__":
    unittest.main()
