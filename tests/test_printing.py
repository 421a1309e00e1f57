"""Point 12: the printed form, with brackets exactly where point 9 asks for them."""

import unittest

from livestead.printing import print_expression, print_method
from livestead.reading import read_expression, read_method

A = ("name", "a")
B = ("name", "b")
C = ("name", "c")
S = ("eval", ("name", "s"))
T = ("eval", ("name", "t"))

# For each sign the levels that it asks for on its left and on its right.
ASKED = {
    "or": (1, 2), "and": (2, 3), "=": (5, 5), "<": (5, 5), "<=": (5, 5),
    "+": (5, 6), "-": (5, 6), "*": (6, 7), "/": (6, 7),
}
# Expressions of each level, with their printed forms.
LEVELS = (
    (1, ("or", A, B), "a or b"),
    (2, ("and", A, B), "a and b"),
    (3, ("not", A), "not a"),
    (4, ("op", "=", A, B), "a = b"),
    (4, ("op", "<", A, B), "a < b"),
    (4, ("op", "<=", A, B), "a <= b"),
    (5, ("op", "+", A, B), "a + b"),
    (5, ("op", "-", A, B), "a - b"),
    (6, ("op", "*", A, B), "a * b"),
    (6, ("op", "/", A, B), "a / b"),
    (7, ("neg", A), "-a"),
    (8, ("send", A, "x", ()), "a.x()"),
    (9, ("super", "x", (A,)), "super.x(a)"),
    (9, ("block", (), (S,)), "{s}"),
    (9, ("block", ("a",), ()), "{a | }"),
    (9, ("new", "Foo"), "new Foo"),
    (9, ("self",), "self"),
    (9, A, "a"),
    (9, ("plain", 0), "0"),
    (9, ("plain", 12), "12"),
    (9, ("plain", "t or u"), "'t or u'"),
    (9, ("plain", None), "none"),
    (9, ("plain", True), "true"),
    (9, ("plain", False), "false"),
)


def signed(sign, left, right):
    if sign in ("and", "or"):
        return (sign, left, right)
    return ("op", sign, left, right)


def placed(text, level, asked):
    return f"({text})" if level < asked else text


class PrintingCase(unittest.TestCase):
    def expression(self, tree, text):
        self.assertEqual(print_expression(tree), text)
        self.assertEqual(read_expression(text), tree)

    def body(self, body, text):
        """The text stands behind the head of a method, and in front of the spaces of its end."""
        tree = ("method", "f", (), (), body)
        whole = f"method f() {text} end"
        self.assertEqual(print_method(tree), whole)
        self.assertEqual(read_method(whole), tree)

    def statement(self, tree, text):
        """The text stands for one statement: in a method, in a block, and between others."""
        self.body((tree,), text)
        self.body((S, tree, T), f"s; {text}; t")
        self.expression(("block", (), (tree,)), "{" + text + "}")
        self.expression(("block", ("b",), (S, tree)), "{b | s; " + text + "}")
        self.body((("while", A, (tree, T)),), f"while a do {text}; t end")


class Expressions(PrintingCase):
    def test_alone(self):
        for _, tree, text in LEVELS:
            self.expression(tree, text)

    def test_plain_values(self):
        self.expression(("plain", 1), "1")
        self.expression(("plain", 1000000000), "1000000000")
        self.expression(("plain", ""), "''")
        self.expression(("plain", " "), "' '")
        self.expression(("plain", "12"), "'12'")
        self.expression(("plain", "true"), "'true'")
        self.expression(("plain", "none"), "'none'")
        self.expression(("plain", "{(a)} \\ ; \""), "'{(a)} \\ ; \"'")
        self.expression(("plain", "x" * 200), "'" + "x" * 200 + "'")

    def test_sends(self):
        self.expression(("send", A, "x", ()), "a.x()")
        self.expression(("send", A, "x", (B,)), "a.x(b)")
        self.expression(("send", A, "x", (B, C)), "a.x(b, c)")
        self.expression(("send", ("self",), "call", (A,) * 8), "self.call(a, a, a, a, a, a, a, a)")
        self.expression(("send", ("new", "Foo"), "x", ()), "new Foo.x()")
        self.expression(("send", ("send", A, "x", ()), "y", ()), "a.x().y()")
        self.expression(("send", A, "x", (("send", B, "y", (C,)),)), "a.x(b.y(c))")

    def test_super(self):
        self.expression(("super", "x", ()), "super.x()")
        self.expression(("super", "x", (B,)), "super.x(b)")
        self.expression(("super", "x", (B, C)), "super.x(b, c)")
        self.expression(("send", ("super", "x", ()), "y", (A,)), "super.x().y(a)")

    def test_blocks(self):
        self.expression(("block", (), ()), "{}")
        self.expression(("block", (), (S,)), "{s}")
        self.expression(("block", (), (S, T)), "{s; t}")
        self.expression(("block", ("a",), (S,)), "{a | s}")
        self.expression(("block", ("a", "b"), (S, T)), "{a, b | s; t}")
        self.expression(("block", ("a", "b", "c", "d"), ()), "{a, b, c, d | }")
        self.expression(("block", ("a",), ()), "{a | }")
        self.expression(("block", (), (("eval", ("block", (), ())),)), "{{}}")
        self.expression(("send", ("block", ("a",), (S,)), "call", (B,)), "{a | s}.call(b)")


class Brackets(PrintingCase):
    def test_left_of_each_sign(self):
        for sign, (asked, _) in ASKED.items():
            for level, tree, text in LEVELS:
                self.expression(signed(sign, tree, C), f"{placed(text, level, asked)} {sign} c")

    def test_right_of_each_sign(self):
        for sign, (_, asked) in ASKED.items():
            for level, tree, text in LEVELS:
                self.expression(signed(sign, C, tree), f"c {sign} {placed(text, level, asked)}")

    def test_both_sides_of_each_sign(self):
        for sign, (ahead, behind) in ASKED.items():
            for level, left, text in LEVELS:
                for tight, right, other in LEVELS:
                    self.expression(
                        signed(sign, left, right),
                        f"{placed(text, level, ahead)} {sign} {placed(other, tight, behind)}")

    def test_behind_not(self):
        for level, tree, text in LEVELS:
            self.expression(("not", tree), "not " + placed(text, level, 3))

    def test_behind_the_minus(self):
        for level, tree, text in LEVELS:
            self.expression(("neg", tree), "-" + placed(text, level, 7))

    def test_ahead_of_a_send(self):
        for level, tree, text in LEVELS:
            self.expression(("send", tree, "x", (B,)), placed(text, level, 8) + ".x(b)")

    def test_no_brackets_around_arguments(self):
        for _, tree, text in LEVELS:
            self.expression(("send", A, "x", (tree,)), f"a.x({text})")
            self.expression(("send", A, "x", (tree, B, tree)), f"a.x({text}, b, {text})")
            self.expression(("super", "x", (tree, tree)), f"super.x({text}, {text})")

    def test_no_brackets_in_statements(self):
        for _, tree, text in LEVELS:
            self.body((("eval", tree),), text)
            self.body((("give", tree),), f"give {text}")
            self.body((("fail", tree),), f"fail {text}")
            self.body((("set", "x", tree),), f"x := {text}")
            self.body((("while", tree, ()),), f"while {text} do end")
            self.body((("if", tree, (), ()),), f"if {text} then end")

    def test_rows_group_from_the_left(self):
        for sign in ("or", "and", "+", "-", "*", "/"):
            self.expression(signed(sign, signed(sign, A, B), C), f"a {sign} b {sign} c")
            self.expression(signed(sign, A, signed(sign, B, C)), f"a {sign} (b {sign} c)")

    def test_signs_that_compare_never_group(self):
        for sign in ("=", "<", "<="):
            for other in ("=", "<", "<="):
                self.expression(signed(sign, signed(other, A, B), C), f"(a {other} b) {sign} c")
                self.expression(signed(sign, A, signed(other, B, C)), f"a {sign} (b {other} c)")

    def test_numbers_and_texts_as_receivers(self):
        self.expression(("send", ("plain", 5), "x", ()), "5.x()")
        self.expression(("send", ("neg", ("plain", 5)), "x", ()), "(-5).x()")
        self.expression(("neg", ("send", ("plain", 5), "x", ())), "-5.x()")
        self.expression(("send", ("plain", "t"), "x", (A,)), "'t'.x(a)")
        self.expression(("send", ("plain", None), "x", ()), "none.x()")
        self.expression(("send", ("plain", True), "x", ()), "true.x()")

    def test_rows_ahead(self):
        self.expression(("neg", ("neg", A)), "--a")
        self.expression(("neg", ("neg", ("neg", ("plain", 1)))), "---1")
        self.expression(("not", ("not", A)), "not not a")
        self.expression(("neg", ("not", A)), "-(not a)")
        self.expression(("not", ("neg", A)), "not -a")
        self.expression(("op", "-", A, ("neg", B)), "a - -b")
        self.expression(("op", "-", ("neg", A), B), "-a - b")
        self.expression(("neg", ("op", "-", A, B)), "-(a - b)")

    def test_levels_far_apart(self):
        self.expression(("op", "*", ("op", "+", A, ("op", "*", B, C)), ("or", A, B)),
                        "(a + b * c) * (a or b)")
        self.expression(("or", ("and", A, ("not", ("op", "=", B, ("op", "+", A, C)))), B),
                        "a and not b = a + c or b")
        self.expression(("and", ("or", A, B), ("or", B, C)), "(a or b) and (b or c)")
        self.expression(("not", ("and", A, B)), "not (a and b)")
        self.expression(("and", ("not", A), ("not", B)), "not a and not b")


class Statements(PrintingCase):
    def test_simple(self):
        self.statement(("set", "x", A), "x := a")
        self.statement(("give", A), "give a")
        self.statement(("fail", A), "fail a")
        self.statement(("eval", A), "a")

    def test_while(self):
        self.statement(("while", A, (S, T)), "while a do s; t end")
        self.statement(("while", A, (S,)), "while a do s end")
        self.statement(("while", A, ()), "while a do end")

    def test_if(self):
        self.statement(("if", A, (S,), (T,)), "if a then s else t end")
        self.statement(("if", A, (S, T), (T, S)), "if a then s; t else t; s end")
        self.statement(("if", A, (S,), ()), "if a then s end")
        self.statement(("if", A, (), ()), "if a then end")
        self.statement(("if", A, (), (T,)), "if a then else t end")

    def test_try(self):
        self.statement(("try", (S,), "x", (T,)), "try s catch x then t end")
        self.statement(("try", (S, T), "x", (T, S)), "try s; t catch x then t; s end")
        self.statement(("try", (), "x", (T,)), "try catch x then t end")
        self.statement(("try", (S,), "x", ()), "try s catch x then end")
        self.statement(("try", (), "x", ()), "try catch x then end")

    def test_keep(self):
        self.statement(("keep", (S,), (T,)), "keep s always t end")
        self.statement(("keep", (S, T), (T, S)), "keep s; t always t; s end")
        self.statement(("keep", (), (T,)), "keep always t end")
        self.statement(("keep", (S,), ()), "keep s always end")
        self.statement(("keep", (), ()), "keep always end")

    def test_statements_in_statements(self):
        inner = ("if", A, (), (T,))
        text = "if a then else t end"
        self.statement(("while", A, (inner, S)), f"while a do {text}; s end")
        self.statement(("if", A, (inner,), (inner,)), f"if a then {text} else {text} end")
        self.statement(("try", (inner,), "x", (inner,)), f"try {text} catch x then {text} end")
        self.statement(("keep", (inner,), (inner,)), f"keep {text} always {text} end")


class Methods(PrintingCase):
    def method(self, tree, text):
        self.assertEqual(print_method(tree), text)
        self.assertEqual(read_method(text), tree)

    def test_heads(self):
        self.method(("method", "x", (), (), ()), "method x() end")
        self.method(("method", "x", ("a",), (), ()), "method x(a) end")
        self.method(("method", "x", ("a", "b"), (), ()), "method x(a, b) end")
        self.method(("method", "x", (), ("c",), ()), "method x() var c; end")
        self.method(("method", "x", (), ("c", "d"), ()), "method x() var c, d; end")
        self.method(("method", "x", ("a", "b"), ("c", "d"), ()), "method x(a, b) var c, d; end")

    def test_bodies(self):
        self.method(("method", "x", (), (), (S,)), "method x() s end")
        self.method(("method", "x", (), (), (S, T)), "method x() s; t end")
        self.method(("method", "x", (), ("c",), (S,)), "method x() var c; s end")
        self.method(("method", "x", ("a", "b"), ("c", "d"), (S, T)),
                    "method x(a, b) var c, d; s; t end")

    def test_most_names(self):
        params = tuple(f"a{k}" for k in range(8))
        variables = tuple(f"b{k}" for k in range(8))
        self.method(("method", "x", params, variables, (T,)),
                    "method x(a0, a1, a2, a3, a4, a5, a6, a7) "
                    "var b0, b1, b2, b3, b4, b5, b6, b7; t end")

    def test_what_was_read_is_written_anew(self):
        rows = (
            ("method f(a,b)var c;a:=(1+2)*(3)end", "method f(a, b) var c; a := (1 + 2) * 3 end"),
            (" method  f ( ) if(a)then else end end ", "method f() if a then end end"),
            ("method f() {a|(s)};{a,b|} end", "method f() {a | s}; {a, b | } end"),
            ("method f()(((a)).x((b),(c or a)))end", "method f() a.x(b, c or a) end"),
        )
        for text, printed in rows:
            self.assertEqual(print_method(read_method(text)), printed)


if __name__ == "__main__":
    unittest.main()
