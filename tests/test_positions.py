"""Point 10: at which position a source that is none is refused."""

import unittest

from livestead.errors import SourceError
from livestead.reading import read_expression, read_method
from livestead.tokens import tokenize
from tests.cases import MARKS, WORDS, ReadingCase, brackets

# Every kind of statement and expression stands in it.
WHOLE = (
    "  method whole(a, b)  var c, d; c := a or not b and c = -d.x(1, 'two') * 3; "
    "while a < b + 1 do a := a - 1; b.y() end; if a <= b then give none else fail true end; "
    "if a then end; try c := new Foo catch e then super.z(e / 2, false); self end; "
    "keep {p, q | p.call(q); {} } always {d; {r | } }; (a + b) end  end "
)

STARTS = ("a", "1", "'t'", "none", "true", "false", "self", "super", "new", "-", "(", "{")
STATEMENTS = STARTS + ("not", "give", "fail", "while", "if", "try", "keep")
SIGNS = ("or", "and", "=", "<", "<=", "+", "-", "*", "/", ".")
EVERY = tuple(WORDS) + tuple(MARKS) + ("a", "Foo", "1", "'t'")

# What may follow what. Only the tokens that are told may stand there.
BEHIND = {
    "": ("method",),
    "method": ("a",),
    "method f": ("(",),
    "method f(": ("a", ")"),
    "method f(a": (",", ")"),
    "method f(a,": ("a",),
    "method f()": STATEMENTS + ("var", "end"),
    "method f() var": ("a",),
    "method f() var a": (",", ";"),
    "method f() var a,": ("a",),
    "method f() var a;": STATEMENTS + ("end",),
    "method f() b": SIGNS + (":=", ";", "end"),
    "method f() 1": SIGNS + (";", "end"),
    "method f() b;": STATEMENTS,
    "method f() b :=": STARTS + ("not",),
    "method f() b := c": SIGNS + (";", "end"),
    "method f() give": STARTS + ("not",),
    "method f() give c": SIGNS + (";", "end"),
    "method f() fail": STARTS + ("not",),
    "method f() fail (c)": SIGNS + (";", "end"),
    "method f() while": STARTS + ("not",),
    "method f() while c": SIGNS + ("do",),
    "method f() while c do": STATEMENTS + ("end",),
    "method f() while c do b": SIGNS + (":=", ";", "end"),
    "method f() while c do b;": STATEMENTS,
    "method f() while c do end": (";", "end"),
    "method f() if": STARTS + ("not",),
    "method f() if c": SIGNS + ("then",),
    "method f() if c then": STATEMENTS + ("else", "end"),
    "method f() if c then b": SIGNS + (":=", ";", "else", "end"),
    "method f() if c then b;": STATEMENTS,
    "method f() if c then else": STATEMENTS + ("end",),
    "method f() if c then b else b": SIGNS + (":=", ";", "end"),
    "method f() if c then else end": (";", "end"),
    "method f() try": STATEMENTS + ("catch",),
    "method f() try b": SIGNS + (":=", ";", "catch"),
    "method f() try catch": ("a",),
    "method f() try catch x": ("then",),
    "method f() try catch x then": STATEMENTS + ("end",),
    "method f() try catch x then b": SIGNS + (":=", ";", "end"),
    "method f() try catch x then end": (";", "end"),
    "method f() keep": STATEMENTS + ("always",),
    "method f() keep b": SIGNS + (":=", ";", "always"),
    "method f() keep always": STATEMENTS + ("end",),
    "method f() keep always b": SIGNS + (":=", ";", "end"),
    "method f() keep always end": (";", "end"),
    "method f() end": (),
    "method f() (": STARTS + ("not",),
    "method f() (b": SIGNS + (")",),
    "method f() {": STATEMENTS + ("}",),
    "method f() {b": SIGNS + (":=", ";", "|", ",", "}"),
    "method f() {1": SIGNS + (";", "}"),
    "method f() {b,": ("a",),
    "method f() {b, c": (",", "|"),
    "method f() {b |": STATEMENTS + ("}",),
    "method f() {b | c": SIGNS + (":=", ";", "}"),
    "method f() {b; c": SIGNS + (":=", ";", "}"),
    "method f() {}": SIGNS + (";", "end"),
    "method f() b.": ("a",),
    "method f() b.x": ("(",),
    "method f() b.x(": STARTS + ("not", ")"),
    "method f() b.x(c": SIGNS + (",", ")"),
    "method f() b.x(c,": STARTS + ("not",),
    "method f() b.x()": SIGNS + (";", "end"),
    "method f() super": (".",),
    "method f() super.": ("a",),
    "method f() super.x": ("(",),
    "method f() super.x(": STARTS + ("not", ")"),
    "method f() super.x(c": SIGNS + (",", ")"),
    "method f() super.x(c)": SIGNS + (";", "end"),
    "method f() new": ("Foo",),
    "method f() new Foo": SIGNS + (";", "end"),
    "method f() self": SIGNS + (";", "end"),
    "method f() 't'": SIGNS + (";", "end"),
    "method f() none": SIGNS + (";", "end"),
    "method f() -": STARTS,
    "method f() -b": SIGNS + (";", "end"),
    "method f() not": STARTS + ("not",),
    "method f() not b": SIGNS + (";", "end"),
    "method f() b or": STARTS + ("not",),
    "method f() b and": STARTS + ("not",),
    "method f() b =": STARTS,
    "method f() b <": STARTS,
    "method f() b <=": STARTS,
    "method f() b +": STARTS,
    "method f() b -": STARTS,
    "method f() b *": STARTS,
    "method f() b /": STARTS,
    "method f() b or c": SIGNS + (";", "end"),
    "method f() b + c": SIGNS + (";", "end"),
    "method f() b = c": ("or", "and", "+", "-", "*", "/", ".", ";", "end"),
    "method f() b < c": ("or", "and", "+", "-", "*", "/", ".", ";", "end"),
    "method f() b <= c": ("or", "and", "+", "-", "*", "/", ".", ";", "end"),
    "method f() not b = c * b": ("or", "and", "+", "-", "*", "/", ".", ";", "end"),
    "method f() b = (c": SIGNS + (")",),
}


class FirstTokenThatCannotStand(ReadingCase):
    def test_every_token_behind_every_beginning(self):
        for beginning, may in BEHIND.items():
            for token in EVERY:
                text = beginning + " " + token
                with self.subTest(text=text):
                    if token not in may:
                        self.refused_at(read_method, text, len(beginning) + 1)
                    elif not self.is_whole(beginning, token):
                        self.refused_at(read_method, text, len(text))

    def is_whole(self, beginning, token):
        """Whether the token ends the method: then nothing is refused."""
        try:
            read_method(beginning + " " + token)
        except SourceError:
            return False
        self.assertEqual(token, "end")
        return True

    def test_what_is_told_may_stand(self):
        for beginning, may in BEHIND.items():
            for token in may:
                text = beginning + " " + token
                if not self.is_whole(beginning, token):
                    self.refused_at(read_method, text, len(text))
                    self.refused_at(read_method, text + "   ", len(text) + 3)

    def test_the_end_of_a_method_ends_it(self):
        for beginning in ("method f()", "method f() var a;", "method f() b", "method f() b := c",
                          "method f() while c do end", "method f() b.x()", "method f() {}"):
            self.assertTrue(self.is_whole(beginning, "end"), beginning)
        for beginning in ("method f() while c do", "method f() if c then", "method f() keep always",
                          "method f() try catch x then", "method f() if c then else"):
            self.assertFalse(self.is_whole(beginning, "end"), beginning)


class Cuts(ReadingCase):
    def test_the_whole_can_be_read(self):
        self.assertEqual(read_method(WHOLE)[1], "whole")

    def test_cut_behind_each_token(self):
        ends = [at for _, _, at in tokenize(WHOLE)]
        for at in ends:
            with self.subTest(at=at):
                self.refused_at(read_method, WHOLE[:at], at)
                kept = WHOLE[:at].rstrip(" ")
                self.refused_at(read_method, kept, len(kept))
                self.refused_at(read_method, kept + " " * 7, len(kept) + 7)

    def test_an_expression_cut_behind_each_token(self):
        text = "-(not {a, b | a := 1}.x(2, super.y()))"
        for _, _, at in tokenize(text):
            with self.subTest(at=at):
                self.refused_at(read_expression, text[:at], at)
        self.assertEqual(read_expression(text)[0], "neg")

    def test_a_token_too_many(self):
        for token in EVERY:
            self.refused_at(read_method, WHOLE + token, len(WHOLE))
            self.refused_at(read_method, WHOLE + " " + token + " end", len(WHOLE) + 1)
            if token not in SIGNS:
                for text in ("a", "1", "a + b", "(a)", "{}", "a.x()", "new Foo"):
                    self.refused_at(read_expression, text + "  " + token, len(text) + 2)

    def test_a_token_too_few(self):
        self.no_method("^f() end")
        self.no_method("method ^() end")
        self.no_method("method f^) end")
        self.no_method("method f( ^end")
        self.no_expression("a ^b")
        self.no_expression("a.x(1 ^2)")
        self.no_expression("a.^(1)")
        self.no_expression("{a ^b}")

    def test_positions_count_spaces(self):
        self.no_expression("   a    ^b")
        self.no_expression("   ^)")
        self.no_expression("a +   ^")
        self.no_method("   method   f  (  )   a  ;   ^end  ")


class LeastPosition(ReadingCase):
    """Of two faults in one text the first one from the left is told."""

    def test_two_tokens_that_cannot_stand(self):
        self.no_expression("a ^) )")
        self.no_expression("a + ^) b )")
        self.no_expression("^end end")
        self.no_method("method f(^1, 2) end")
        self.no_method("method f() a; ^; b; end")
        self.no_method("method f() give ^; var end")

    def test_a_token_and_a_depth(self):
        self.no_expression("a.x(^;) + " + brackets(20, "a"))
        self.no_expression(brackets(10, "a") + " ^) + " + brackets(20, "a"))
        self.no_expression("(" * 11 + "^a ) ; ,")
        self.no_expression("-" * 11 + "^a b c")
        self.no_expression("-" * 11 + "^; a b")
        self.no_expression("a" + " + a" * 10 + " ^+ ;")
        self.no_expression("a" + " + a" * 10 + " ^; + a")

    def test_a_token_and_a_number(self):
        self.no_expression("a.x(1, 2, 3, 4, 5, 6, 7, 8, ^9 b")
        self.no_expression("a.x(1, 2, 3, 4, 5, 6, 7, ^;, 8, 9, 10)")
        self.no_expression("{a, b, c, d, ^e ; }")
        self.no_expression("{a, b, ^; c, d, e, f | }")
        self.no_method("method f(a, b, c, d, e, f, g, h, ^i j) end")
        self.no_method("method f(a, ^; b, c, d, e, f, g, h, i) end")
        self.no_method("method f() var a, b, c, d, e, f, g, h, ^i j; end")

    def test_a_depth_and_a_number(self):
        self.no_expression("a.x(1, 2, 3, 4, 5, 6, 7, 8, ^" + brackets(20, "9") + ")")
        self.no_expression("a.x(1, 2, 3, " + brackets(10, "^4") + ", 5, 6, 7, 8, 9)")
        self.no_expression(brackets(11, "^a") + ".x(1, 2, 3, 4, 5, 6, 7, 8, 9)")

    def test_a_cut_and_another_fault(self):
        self.no_expression("(" * 11 + "^a")
        self.no_expression("(" * 11 + "^")
        self.no_expression("a" + ".x()" * 10 + "^.")
        self.no_expression("a ^b (")
        self.no_method("method f(a, b, c, d, e, f, g, h, ^i")
        self.no_method("method f() var ^; a")

    def test_names_twice_and_another_fault(self):
        self.no_method("method f(a, a) ^")
        self.no_method("method f(a, a) end ^end")
        self.no_method("method f(a, a) var a, a; a; ^end")
        self.no_method("method f() var a, a ^end")
        self.no_method("method f() var a, a; " + brackets(11, "^a") + " end")
        self.no_method("method f(a, a, b, c, d, e, g, h, ^i) end")
        self.no_expression("{a, a | } ^b")
        self.no_expression("{a, a | ^")
        self.no_expression("{a, a | {b, b | ^;} }")
        self.no_expression("{a, a | b}" + ".x()" * 8 + "^.x()")


if __name__ == "__main__":
    unittest.main()
