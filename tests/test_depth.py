"""Point 10: how deep parts may be nested."""

import unittest

from livestead.reading import read_expression, read_method
from tests.cases import ReadingCase, brackets

LEAVES = ("1", "'t'", "none", "true", "false", "self", "a", "new Foo", "super.x()", "{}", "{a | }")
SIGNS = ("or", "and", "=", "<", "<=", "+", "-", "*", "/")


def in_brackets(depth, inner):
    """An expression in which the inner one has the depth: an expression that is all has depth 2."""
    return brackets(depth - 2, inner)


def in_tries(depth, inner):
    """A method in which the inner statement has the depth."""
    return ("method f() " + "try " * (depth - 1) + inner + " catch x then end" * (depth - 1)
            + " end")


class Expressions(ReadingCase):
    """Each kind of part at depth 12 and at depth 13."""

    def test_without_parts(self):
        for leaf in LEAVES:
            read_expression(in_brackets(12, leaf))
            self.no_expression(in_brackets(13, "^" + leaf))

    def test_brackets(self):
        read_expression(in_brackets(11, "(a)"))
        self.no_expression(in_brackets(12, "(^a)"))
        self.no_expression(in_brackets(13, "^(a)"))
        self.no_expression("(" * 11 + "^(")
        self.no_expression("(" * 11 + "^(((((a")

    def test_ahead(self):
        for word in ("-", "not "):
            read_expression(in_brackets(11, word + "a"))
            self.no_expression(in_brackets(12, word + "^a"))
            self.no_expression(in_brackets(13, "^" + word + "a"))
            read_expression(word * 10 + "a")
            self.no_expression(word * 11 + "^a")
            self.no_expression(word * 11 + "^" + word + "a")

    def test_signs(self):
        for sign in SIGNS:
            read_expression(in_brackets(11, f"a {sign} b"))
            self.no_expression(in_brackets(12, f"a ^{sign} b"))
            self.no_expression(in_brackets(13, f"^a {sign} b"))
            read_expression(in_brackets(10, f"a {sign} (b)"))
            self.no_expression(in_brackets(11, f"a {sign} (^b)"))
            read_expression(in_brackets(10, f"a {sign} -b"))
            self.no_expression(in_brackets(11, f"a {sign} -^b"))

    def test_sends(self):
        read_expression(in_brackets(11, "a.x()"))
        self.no_expression(in_brackets(12, "a^.x()"))
        self.no_expression(in_brackets(13, "^a.x()"))
        read_expression(in_brackets(11, "a.x(b, c)"))
        read_expression(in_brackets(10, "a.x(b, -c)"))
        self.no_expression(in_brackets(11, "a.x(b, -^c)"))
        self.no_expression(in_brackets(11, "a.x(-^b, c)"))

    def test_super(self):
        read_expression(in_brackets(12, "super.x()"))
        read_expression(in_brackets(11, "super.x(a, b)"))
        self.no_expression(in_brackets(12, "super.x(^a, b)"))
        self.no_expression(in_brackets(11, "super.x(a, -^b)"))

    def test_blocks(self):
        read_expression(in_brackets(10, "{a}"))
        self.no_expression(in_brackets(11, "{^a}"))
        read_expression(in_brackets(11, "{keep always end}"))
        read_expression(in_brackets(11, "{a, b | try catch x then end}"))
        self.no_expression(in_brackets(12, "{^keep always end}"))
        self.no_expression(in_brackets(12, "{a, b | ^try catch x then end}"))
        self.no_expression(in_brackets(12, "{^a := 1}"))
        self.no_expression(in_brackets(11, "{a := ^1}"))
        read_expression(in_brackets(10, "{a := 1; b}"))
        self.no_expression(in_brackets(11, "{keep always end; ^a}"))

    def test_blocks_in_blocks(self):
        read_expression("{" * 5 + "a" + "}" * 5)
        self.no_expression("{" * 5 + "{^a}" + "}" * 5)
        read_expression("{" * 6 + "}" * 6)
        self.no_expression("{" * 6 + "^{" + "}" * 7)

    def test_arguments_in_arguments(self):
        read_expression("a.x(" * 10 + "b" + ")" * 10)
        self.no_expression("a.x(" * 10 + "b^.x()" + ")" * 10)
        read_expression("super.x(" * 10 + "b" + ")" * 10)
        self.no_expression("super.x(" * 11 + "^b" + ")" * 11)


class Statements(ReadingCase):
    def test_give_fail_and_set(self):
        for head in ("give ", "fail ", "x := "):
            read_method(in_tries(11, head + "a"))
            self.no_method(in_tries(12, head + "^a"))
            self.no_method(in_tries(13, "^" + head + "a"))

    def test_eval(self):
        read_method(in_tries(11, "a"))
        read_method(in_tries(10, "-a"))
        self.no_method(in_tries(12, "^a"))
        self.no_method(in_tries(12, "^-a"))
        self.no_method(in_tries(11, "-^a"))
        self.no_method(in_tries(11, "a ^+ b"))

    def test_while_and_if(self):
        read_method(in_tries(11, "while a do end"))
        read_method(in_tries(11, "if a then end"))
        read_method(in_tries(10, "while a do b end"))
        read_method(in_tries(10, "if a then b else c end"))
        self.no_method(in_tries(12, "while ^a do end"))
        self.no_method(in_tries(12, "if ^a then end"))
        self.no_method(in_tries(11, "while a do ^b end"))
        self.no_method(in_tries(11, "if a then ^b else c end"))
        self.no_method(in_tries(11, "if a then else ^c end"))
        self.no_method(in_tries(11, "while -^a do end"))
        self.no_method(in_tries(11, "if -^a then end"))
        self.no_method(in_tries(13, "^while a do end"))
        self.no_method(in_tries(13, "^if a then end"))

    def test_try_and_keep(self):
        read_method(in_tries(12, "try catch x then end"))
        read_method(in_tries(12, "keep always end"))
        self.no_method(in_tries(13, "^try catch x then end"))
        self.no_method(in_tries(13, "^keep always end"))
        read_method(in_tries(10, "try a catch x then b end"))
        read_method(in_tries(10, "keep a always b end"))
        self.no_method(in_tries(11, "try ^a catch x then b end"))
        self.no_method(in_tries(11, "try catch x then ^b end"))
        self.no_method(in_tries(11, "keep ^a always b end"))
        self.no_method(in_tries(11, "keep always ^b end"))
        read_method(in_tries(11, "try try catch x then end catch x then keep always end end"))
        read_method(in_tries(11, "keep keep always end always try catch x then end end"))
        self.no_method(in_tries(12, "try catch x then ^keep always end end"))
        self.no_method(in_tries(12, "keep always ^keep always end end"))

    def test_rows_of_each(self):
        self.no_method("method f() " + "while a do " * 11 + "while ^a do")
        read_method("method f() " + "while a do " * 11 + "end " * 12)
        read_method("method f() " + "if a then " * 11 + "end " * 12)
        read_method("method f() " + "if a then else " * 11 + "end " * 12)
        self.no_method("method f() " + "if a then else " * 11 + "if ^a then")
        read_method("method f() " + "keep always " * 12 + "end " * 13)
        self.no_method("method f() " + "keep always " * 12 + "^keep always")
        read_method("method f() " + "keep " * 12 + "always end " * 12 + "end")
        self.no_method("method f() " + "keep " * 12 + "^keep always")

    def test_depths_of_a_method_and_an_expression(self):
        read_method("method f() give " + brackets(10, "a") + " end")
        self.no_method("method f() give " + brackets(11, "^a") + " end")
        read_method("method f() " + brackets(10, "a") + " end")
        self.no_method("method f() " + brackets(11, "^a") + " end")
        read_expression(brackets(10, "a"))
        self.no_expression(brackets(11, "^a"))

    def test_other_statements_do_not_count(self):
        deep = brackets(10, "a")
        read_method("method f() " + "; ".join([deep] * 5) + " end")
        read_method("method f() x := " + deep + "; a + b; a.x() end")
        read_method("method f() " + deep + "; a = b end")

    def test_head_and_variables_have_no_depth(self):
        read_method("method f(a, b) var c, d; give " + brackets(10, "a") + " end")


class Rows(ReadingCase):
    """Signs and sends that make what stands left of them too deep."""

    def test_rows_of_one_sign(self):
        for sign in ("or", "and", "+", "-", "*", "/"):
            read_expression("a" + f" {sign} a" * 10)
            self.no_expression("a" + f" {sign} a" * 10 + f" ^{sign} a")
            self.no_expression("a" + f" {sign} a" * 10 + f" ^{sign} a" + f" {sign} a" * 10)
            self.no_expression("a" + f" {sign} a" * 10 + f" ^{sign}")

    def test_rows_of_two_signs(self):
        read_expression("a" + " + a - a" * 5)
        self.no_expression("a" + " + a - a" * 5 + " ^+ a")
        self.no_expression("a" + " * a / a" * 5 + " ^* a")
        read_expression("a" + " * a" * 9 + " + a")
        self.no_expression("a" + " * a" * 10 + " ^+ a")
        self.no_expression("a" + " * a" * 5 + " + a" * 5 + " ^= a")
        self.no_expression("a" + " * a" * 5 + " + a" * 5 + " ^and a")
        self.no_expression("a" + " and a" * 10 + " ^or a")

    def test_rows_of_sends(self):
        read_expression("a" + ".x()" * 10)
        self.no_expression("a" + ".x()" * 10 + "^.x()")
        self.no_expression("a" + ".x()" * 10 + "^.")
        self.no_expression("a" + ".x()" * 10 + "^.1")
        self.no_expression("a" + ".x(b)" * 10 + "^.x(b)")
        read_expression("super.x()" + ".x()" * 10)
        self.no_expression("super.x()" + ".x()" * 10 + "^.x()")
        read_expression("super.x(a)" + ".x()" * 9)
        self.no_expression("super.x(a)" + ".x()" * 9 + "^.x()")

    def test_arguments_of_earlier_sends_are_made_deeper(self):
        read_expression("a.x(" + brackets(8, "b") + ").x()")
        self.no_expression("a.x(" + brackets(8, "b") + ").x()^.x()")
        self.no_expression("a.x(" + brackets(9, "b") + ")^.x()")
        self.no_expression("a.x(" + brackets(9, "b") + ") ^+ c")

    def test_what_stands_right_is_not_made_deeper(self):
        read_expression("a" + " + a" * 9 + " + " + brackets(9, "b"))
        self.no_expression("a" + " + a" * 9 + " + " + brackets(10, "^b"))
        read_expression("a" + ".x()" * 9 + ".x(" + brackets(9, "b") + ")")
        self.no_expression("a" + ".x()" * 9 + ".x(" + brackets(10, "^b") + ")")

    def test_what_stands_left_of_a_looser_sign_is_not_made_deeper(self):
        read_expression(brackets(9, "a") + " + b * c")
        read_expression(brackets(9, "a") + " + b * c / a")
        read_expression(brackets(9, "a") + " or b and c = -a.x()")
        self.no_expression(brackets(9, "a") + " + b * c ^+ a")
        self.no_expression("-" + brackets(9, "a") + " ^+ b")
        self.no_expression("-" + brackets(9, "a") + "^.x()")
        self.no_expression("not " + brackets(9, "a") + " ^= b")
        self.no_expression("not " + brackets(9, "a") + " ^and b")
        read_expression("b + " + brackets(9, "a"))
        self.no_expression("b + " + brackets(9, "a") + " ^* c")
        self.no_expression("b + " + brackets(9, "a") + " ^- c")
        self.no_expression("b = " + brackets(9, "a") + " ^or c")

    def test_what_stands_left_of_a_comma_is_not_made_deeper(self):
        deep = brackets(9, "a")
        read_expression("a.x(" + deep + ", b + c)")
        read_expression("a.x(" + deep + ", b.x(), b or c)")
        read_expression("super.x(" + deep + ", b + c * a)")
        self.no_expression("a.x(b, " + deep + " ^+ c)")
        self.no_expression("super.x(" + deep + ", b) ^+ c")

    def test_statements_ahead_are_not_made_deeper(self):
        deep = brackets(8, "a")
        read_expression("{" + deep + "; b + c}")
        read_expression("{x := " + deep + "; b.x()}")
        read_method("method f() while " + brackets(10, "a") + " do b + c end; b + c end")
        self.no_method("method f() while " + brackets(10, "a") + " ^+ b do end end")

    def test_minus_and_not_in_rows(self):
        self.no_expression("-" * 10 + "a ^+ b")
        self.no_expression("-" * 10 + "a^.x()")
        self.no_expression("not " * 10 + "a ^and b")
        self.no_expression("not " * 10 + "a ^= b")
        read_expression("-" * 9 + "a + b")
        read_expression("-" * 9 + "a.x()")
        read_expression("a + " + "-" * 9 + "b")
        self.no_expression("a + " + "-" * 10 + "^b")
        self.no_expression("a + " + "-" * 9 + "b ^* c")


class DeepInside(ReadingCase):
    """What is deep inside brackets, blocks and arguments left of a sign."""

    def test_brackets(self):
        for sign in SIGNS:
            read_expression(brackets(9, "a") + f" {sign} b")
            self.no_expression(brackets(10, "a") + f" ^{sign} b")
            self.no_expression("(" + brackets(9, "a") + f" ^{sign} b)")
            self.no_expression("c or " + brackets(9, "a") + f" ^{sign} b")
        read_expression(brackets(9, "a") + ".x()")
        self.no_expression(brackets(10, "a") + "^.x()")

    def test_brackets_count_themselves(self):
        read_expression(brackets(10, "{}"))
        self.no_expression(brackets(10, "{}") + " ^+ b")
        self.no_expression(brackets(10, "super.x()") + "^.x()")

    def test_inside_is_deeper_than_the_last(self):
        self.no_expression("(" + brackets(8, "a") + " + b) ^+ c")
        self.no_expression("(" + brackets(7, "a") + " + b) + c ^+ c")
        self.no_expression("(b + " + brackets(8, "a") + ") ^+ c")
        read_expression("(" + brackets(7, "a") + " + b) + c")
        self.no_expression("(a" + " + b" * 9 + ") ^* c")
        read_expression("(a" + " + b" * 8 + ") * c")

    def test_blocks(self):
        read_expression("{" + brackets(7, "a") + "}.call()")
        self.no_expression("{" + brackets(8, "a") + "}^.call()")
        self.no_expression("{b | b; " + brackets(8, "a") + "; b}^.call(1)")
        self.no_expression("{x := " + brackets(8, "a") + "} ^= b")
        self.no_expression("{while " + brackets(8, "a") + " do end}^.call()")
        self.no_expression("{try a catch x then " + brackets(7, "a") + " end; b}^.call()")
        self.no_expression("{" + "keep " * 9 + "keep always end " + "always end " * 9 + "}^.call()")
        read_expression("{" + "keep " * 8 + "keep always end " + "always end " * 8 + "}.call()")

    def test_arguments(self):
        read_expression("a.x(" + brackets(8, "b") + ") + c")
        self.no_expression("a.x(" + brackets(9, "b") + ") ^+ c")
        self.no_expression("a.x(" + brackets(9, "b") + ", c) ^+ c")
        self.no_expression("a.x(c, " + brackets(9, "b") + ", c)^.y()")
        self.no_expression("super.x(" + brackets(9, "b") + ", c) ^or c")

    def test_right_sides(self):
        self.no_expression("a + " + brackets(9, "b") + " ^+ c")
        self.no_expression("a * " + brackets(9, "b") + " ^+ c")
        self.no_expression("a and " + brackets(9, "b") + " ^or c")
        read_expression("a + " + brackets(8, "b") + " + c")
        self.no_expression("a + " + brackets(8, "b") + " + c ^+ a")

    def test_the_sign_comes_ahead_of_what_is_behind_it(self):
        self.no_expression(brackets(10, "a") + " ^+ )")
        self.no_expression(brackets(10, "a") + " ^+ " + brackets(12, "a"))
        self.no_expression(brackets(10, "a") + "^.Foo")
        self.no_expression(brackets(10, "a") + "^.x(,)")

    def test_a_sign_that_cannot_stand(self):
        self.no_expression("a = " + brackets(9, "b") + " ^= c")
        self.no_expression(brackets(9, "b") + " = a ^= c")


if __name__ == "__main__":
    unittest.main()
