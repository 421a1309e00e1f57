"""Points 7 and 9: the trees of expressions and their levels."""

import unittest

from livestead.reading import read_expression, read_method
from tests.cases import WORDS, ReadingCase, name, run

A, B, C = name("a"), name("b"), name("c")
LEVELS = {"or": 1, "and": 2, "=": 4, "<": 4, "<=": 4, "+": 5, "-": 5, "*": 6, "/": 6}


def signed(sign, left, right):
    if sign in ("and", "or"):
        return (sign, left, right)
    return ("op", sign, left, right)


class Kinds(ReadingCase):
    def test_example(self):
        self.expression("1 + 2 * a", ("op", "+", ("plain", 1), ("op", "*", ("plain", 2), A)))

    def test_plain(self):
        for text, value in (("0", 0), ("7", 7), ("1000000000", 1000000000), ("''", ""),
                            ("'a b'", "a b"), ("'none'", "none"), ("'+'", "+"),
                            ("'" + "b" * 200 + "'", "b" * 200)):
            self.expression(text, ("plain", value))
        for text, value in (("none", None), ("true", True), ("false", False)):
            tree = read_expression(text)
            self.assertEqual(tree, ("plain", value))
            self.assertIs(tree[1], value)
        self.assertIs(type(read_expression("1")[1]), int)
        self.assertIs(type(read_expression("0")[1]), int)

    def test_self_and_names(self):
        self.expression("self", ("self",))
        self.expression("a", A)
        self.expression("call", name("call"))
        self.expression("aB2", name("aB2"))

    def test_new(self):
        self.expression("new Foo", ("new", "Foo"))
        self.expression("new T", ("new", "T"))
        self.no_expression("new ^foo")
        self.no_expression("new ^1")
        self.no_expression("new ^end")
        self.no_expression("new ^'Foo'")
        self.no_expression("new ^(Foo)")
        self.no_expression("new^")

    def test_a_class_name_stands_behind_new_only(self):
        self.no_expression("^Foo")
        self.no_expression("a.^Foo()")
        self.no_expression("1 + ^Foo")
        self.no_expression("new Foo ^Foo")

    def test_ahead(self):
        self.expression("-a", ("neg", A))
        self.expression("-5", ("neg", ("plain", 5)))
        self.expression("- - a", ("neg", ("neg", A)))
        self.expression("--a", ("neg", ("neg", A)))
        self.expression("not a", ("not", A))
        self.expression("not not a", ("not", ("not", A)))
        self.no_expression("-^")
        self.no_expression("not^")
        self.no_expression("^+ a")

    def test_signs(self):
        for sign in LEVELS:
            self.expression("a " + sign + " b", signed(sign, A, B))
            self.no_expression("a " + sign + "^")
            self.no_expression("a " + sign + " ^)")
            if sign != "-":
                self.no_expression("^" + sign + " a")

    def test_sends(self):
        self.expression("a.x()", ("send", A, "x", ()))
        self.expression("a . x ( )", ("send", A, "x", ()))
        self.expression("a.x(b)", ("send", A, "x", (B,)))
        self.expression("a.x(b, 1, c)", ("send", A, "x", (B, ("plain", 1), C)))
        self.expression("a.x(a or b, not c)", ("send", A, "x", (("or", A, B), ("not", C))))
        self.expression("a.x().y(b)", ("send", ("send", A, "x", ()), "y", (B,)))
        self.expression("a.x(b.y(c))", ("send", A, "x", (("send", B, "y", (C,)),)))

    def test_receivers(self):
        for text, tree in (("1", ("plain", 1)), ("'t'", ("plain", "t")), ("none", ("plain", None)),
                           ("true", ("plain", True)), ("self", ("self",)), ("new D", ("new", "D")),
                           ("{}", ("block", (), ())), ("super.y()", ("super", "y", ())),
                           ("(a)", A), ("(-a)", ("neg", A)), ("(not a)", ("not", A)),
                           ("(a + b)", ("op", "+", A, B)), ("(a or b)", ("or", A, B))):
            self.expression(text + ".x()", ("send", tree, "x", ()))

    def test_wrong_sends(self):
        self.no_expression("a.^")
        self.no_expression("a.x^")
        self.no_expression("a.x(^")
        self.no_expression("a.x(b^")
        self.no_expression("a.x(b,^")
        self.no_expression("a.x ^b")
        self.no_expression("a.x(^,)")
        self.no_expression("a.x(b^; c)")
        self.no_expression("a.x(b,^)")
        self.no_expression("a.x(b ^c)")
        self.no_expression("a.x()^)")
        self.no_expression("a.^1()")
        self.no_expression("a.^'x'()")
        self.no_expression("a.^(x)")
        self.no_expression("a.x(b ^:= 1)")
        self.no_expression("^.x()")

    def test_super(self):
        self.expression("super.x()", ("super", "x", ()))
        self.expression("super.x(a, -b)", ("super", "x", (A, ("neg", B))))
        self.expression("super.x().y()", ("send", ("super", "x", ()), "y", ()))
        self.no_expression("super^")
        self.no_expression("super ^+ a")
        self.no_expression("super.^")
        self.no_expression("super.x^")
        self.no_expression("super.x ^+ 1")
        self.no_expression("super.x(^;")
        self.no_expression("super.x(a,^)")
        self.no_expression("super.^Foo()")
        self.no_expression("(super^).x()")

    def test_blocks(self):
        self.expression("{}", ("block", (), ()))
        self.expression("{ }", ("block", (), ()))
        self.expression("{a}", ("block", (), (run("a"),)))
        self.expression("{a; b}", ("block", (), (run("a"), run("b"))))
        self.expression("{a | }", ("block", ("a",), ()))
        self.expression("{a|b}", ("block", ("a",), (run("b"),)))
        self.expression("{a, b | b; a}", ("block", ("a", "b"), (run("b"), run("a"))))
        self.expression("{a, b, c, d | }", ("block", ("a", "b", "c", "d"), ()))
        self.expression("{{a}}", ("block", (), (("eval", ("block", (), (run("a"),))),)))
        self.expression("{a | {b | a}}",
                        ("block", ("a",), (("eval", ("block", ("b",), (run("a"),))),)))
        self.expression("{give 1}", ("block", (), (("give", ("plain", 1)),)))

    def test_parameters_against_a_body_that_begins_with_a_name(self):
        self.expression("{a := 1}", ("block", (), (("set", "a", ("plain", 1)),)))
        self.expression("{a | a := 1}", ("block", ("a",), (("set", "a", ("plain", 1)),)))
        self.expression("{a + b}", ("block", (), (("eval", ("op", "+", A, B)),)))
        self.expression("{a.x()}", ("block", (), (("eval", ("send", A, "x", ())),)))
        self.expression("{a or b}", ("block", (), (("eval", ("or", A, B)),)))
        self.expression("{a; b; c}", ("block", (), (run("a"), run("b"), run("c"))))
        self.expression("{a.x(b, c)}", ("block", (), (("eval", ("send", A, "x", (B, C))),)))
        self.no_expression("{a^")
        self.no_expression("{a,^")
        self.no_expression("{a, ^}")
        self.no_expression("{a, b^}")
        self.no_expression("{a, b^; c}")
        self.no_expression("{a, b ^:= 1}")
        self.no_expression("{a, b ^+ c | }")
        self.no_expression("{a, ^| b}")
        self.no_expression("{a; b ^| c}")
        self.no_expression("{a; b^, c | d}")
        self.no_expression("{a + b ^| c}")
        self.no_expression("{a | b ^| c}")
        self.no_expression("{a ^b | c}")
        self.no_expression("{a ^','}")
        self.no_expression("{a ^'|'}")

    def test_wrong_blocks(self):
        self.no_expression("{ ^| a }")
        self.no_expression("{^| }")
        self.no_expression("{^, a | b}")
        self.no_expression("{1^, b | c}")
        self.no_expression("{1 ^| c}")
        self.no_expression("{self ^| c}")
        self.no_expression("{(a) ^| c}")
        self.no_expression("{^Foo | c}")
        self.no_expression("{a, ^Foo | c}")
        self.no_expression("{a, ^1 | c}")
        self.no_expression("{a, ^self | c}")
        self.no_expression("{a^)")
        self.no_expression("{a ^end")
        self.no_expression("{^;}")
        self.no_expression("{a;^}")
        self.no_expression("{a | ^;}")
        self.no_expression("{a | b;^}")
        self.no_expression("{^")
        self.no_expression("{a |^")
        self.no_expression("^}")

    def test_brackets_leave_no_trace(self):
        self.expression("(a)", A)
        self.expression("((a))", A)
        self.expression("(1 + 2)", ("op", "+", ("plain", 1), ("plain", 2)))
        self.no_expression("(^)")
        self.no_expression("(^")
        self.no_expression("(a^")
        self.no_expression("(a^, b)")
        self.no_expression("(a)^)")
        self.no_expression("(a ^:= 1)")
        self.no_expression("(^give a)")
        self.no_expression("^)")

    def test_words_where_a_name_is_asked_for(self):
        for word in WORDS:
            self.no_expression("a.^" + word + "()")
            self.no_expression("super.^" + word + "()")
            self.no_expression("new ^" + word)
            self.no_expression("{a, ^" + word + " | }")
            self.no_expression("{a, b, ^" + word + " | }")

    def test_words_where_an_expression_is_asked_for(self):
        ahead = ("none", "true", "false", "self", "super", "new", "not")
        for word in WORDS:
            if word not in ahead:
                self.no_expression("^" + word)
                self.no_expression("a + ^" + word)
                self.no_expression("not ^" + word)
                self.no_expression("-^" + word)
                self.no_expression("(^" + word + ")")
                self.no_expression("a.x(^" + word + ")")
                self.no_expression("super.x(b, ^" + word + ")")

    def test_an_expression_is_no_statement(self):
        for text in ("a ^:= 1", "^give a", "^fail a", "^while a do end", "^if a then end",
                     "^try catch x then end", "^keep always end", "^method f() end", "^var a;",
                     "a^; b", "a^;"):
            self.no_expression(text)

    def test_it_is_the_whole_text(self):
        for text in ("a ^b", "1 ^2", "a ^'b'", "a ^(b)", "a ^{}", "{} ^{}", "a ^not b", "a ^self",
                     "a ^Foo", "a ^new Foo", "a^)", "a^}", "a^, b", "a ^| b", "a ^end",
                     "a.x() ^y", "(a) ^(b)", "a + b ^c"):
            self.no_expression(text)

    def test_nothing(self):
        self.no_expression("^")
        self.no_expression("   ^")

    def test_trees_are_of_tuples(self):
        self.check_kinds(read_method("method f(a) var b; {c | a.x(1, 'b', none, true)}; "
                                     "while a do b end; if a then b else a end; "
                                     "try b catch a then b end; keep a always b end end"))

    def check_kinds(self, tree):
        self.assertIn(type(tree), (tuple, str, int, bool, type(None)))
        if isinstance(tree, tuple):
            for part in tree:
                self.check_kinds(part)


class Levels(ReadingCase):
    def test_two_by_two(self):
        for first in LEVELS:
            for second in LEVELS:
                text = "a " + first + " b " + second + " c"
                if LEVELS[first] == 4 and LEVELS[second] == 4:
                    self.refused_at(read_expression, text, len("a " + first + " b "))
                elif LEVELS[first] >= LEVELS[second]:
                    self.expression(text, signed(second, signed(first, A, B), C))
                else:
                    self.expression(text, signed(first, A, signed(second, B, C)))

    def test_two_by_two_with_brackets(self):
        for first in LEVELS:
            for second in LEVELS:
                self.expression("(a " + first + " b) " + second + " c",
                                signed(second, signed(first, A, B), C))
                self.expression("a " + first + " (b " + second + " c)",
                                signed(first, A, signed(second, B, C)))

    def test_from_the_left(self):
        for sign in ("or", "and", "+", "-", "*", "/"):
            left = signed(sign, signed(sign, signed(sign, A, B), C), A)
            self.expression(f"a {sign} b {sign} c {sign} a", left)
        self.expression("a - b + c - a",
                        signed("-", signed("+", signed("-", A, B), C), A))
        self.expression("a / b * c / a",
                        signed("/", signed("*", signed("/", A, B), C), A))

    def test_all_levels_in_a_row(self):
        product = signed("*", B, ("neg", ("send", C, "x", ())))
        compared = signed("=", C, signed("+", A, product))
        self.expression("a or b and not c = a + b * -c.x()",
                        ("or", A, ("and", B, ("not", compared))))
        product = signed("*", ("neg", ("send", A, "x", ())), B)
        compared = signed("<", signed("+", product, C), A)
        self.expression("-a.x() * b + c < a and b or c", ("or", ("and", compared, B), C))

    def test_comparing_side_by_side(self):
        for first in ("=", "<", "<="):
            for second in ("=", "<", "<="):
                self.no_expression(f"a {first} b ^{second} c")
                self.no_expression(f"a {first} b + c ^{second} c")
                self.no_expression(f"not a {first} b ^{second} c")
                self.no_expression(f"c or a {first} b ^{second} c")
                self.expression(f"a {first} b and b {second} c",
                                ("and", signed(first, A, B), signed(second, B, C)))

    def test_not_and_signs(self):
        for sign in ("or", "and"):
            self.expression(f"not a {sign} b", signed(sign, ("not", A), B))
            self.expression(f"a {sign} not b", signed(sign, A, ("not", B)))
            self.expression(f"not (a {sign} b)", ("not", signed(sign, A, B)))
            self.expression(f"a {sign} not b {sign} c", signed(sign, signed(sign, A, ("not", B)), C))
        for sign in ("=", "<", "<=", "+", "-", "*", "/"):
            self.expression(f"not a {sign} b", ("not", signed(sign, A, B)))
            self.expression(f"(not a) {sign} b", signed(sign, ("not", A), B))
            self.expression(f"a {sign} (not b)", signed(sign, A, ("not", B)))
            self.no_expression(f"a {sign} ^not b")
            self.no_expression(f"a or a {sign} ^not b")

    def test_minus_and_signs(self):
        for sign in LEVELS:
            self.expression(f"-a {sign} b", signed(sign, ("neg", A), B))
            self.expression(f"a {sign} -b", signed(sign, A, ("neg", B)))
            self.expression(f"a {sign} - - b", signed(sign, A, ("neg", ("neg", B))))
            self.expression(f"-(a {sign} b)", ("neg", signed(sign, A, B)))
            self.expression(f"a {sign} -b or c", signed("or", signed(sign, A, ("neg", B)), C))
        self.expression("a--b", signed("-", A, ("neg", B)))

    def test_not_and_minus(self):
        self.expression("not -a", ("not", ("neg", A)))
        self.expression("-(not a)", ("neg", ("not", A)))
        self.no_expression("-^not a")
        self.no_expression("- -^not a")
        self.no_expression("not -^not a")
        self.no_expression("a and -^not a")

    def test_sends_bind_tighter(self):
        self.expression("-a.x()", ("neg", ("send", A, "x", ())))
        self.expression("(-a).x()", ("send", ("neg", A), "x", ()))
        self.expression("-5.x()", ("neg", ("send", ("plain", 5), "x", ())))
        self.expression("not a.x()", ("not", ("send", A, "x", ())))
        self.expression("(not a).x()", ("send", ("not", A), "x", ()))
        for sign in LEVELS:
            self.expression(f"a {sign} b.x()", signed(sign, A, ("send", B, "x", ())))
            self.expression(f"a.x() {sign} b", signed(sign, ("send", A, "x", ()), B))
            self.expression(f"(a {sign} b).x()", ("send", signed(sign, A, B), "x", ()))
        self.expression("new Foo.x()", ("send", ("new", "Foo"), "x", ()))
        self.expression("{a}.x()", ("send", ("block", (), (run("a"),)), "x", ()))

    def test_in_brackets_and_arguments_the_levels_begin_again(self):
        self.expression("a * (b or c)", signed("*", A, ("or", B, C)))
        self.expression("-a.x(b or c)", ("neg", ("send", A, "x", (("or", B, C),))))
        self.expression("a = b.x(a = b)", signed("=", A, ("send", B, "x", (signed("=", A, B),))))
        self.expression("a = (b = c)", signed("=", A, signed("=", B, C)))
        self.expression("a = {b = c}", signed("=", A, ("block", (), (("eval", signed("=", B, C)),))))
        self.expression("a + super.x(not b)", signed("+", A, ("super", "x", (("not", B),))))


if __name__ == "__main__":
    unittest.main()
