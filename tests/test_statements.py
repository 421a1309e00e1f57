"""Points 7 and 8: the trees of statements and methods, and what a body may look like."""

import unittest

from livestead.reading import read_method
from tests.cases import WORDS, ReadingCase, name, run

A, B = name("a"), name("b")


class Statements(ReadingCase):
    def test_set(self):
        self.statement("x := 1", ("set", "x", ("plain", 1)))
        self.statement("x := a or b", ("set", "x", ("or", A, B)))
        self.statement("x := not a", ("set", "x", ("not", A)))
        self.no_body("x :=^")
        self.no_body("x := ^end")
        self.no_body("x := y ^:= 1 end")
        self.no_body("x = ^= 1 end")
        self.no_body("^:= 1")
        self.no_body("1 ^:= 2")
        self.no_body("self ^:= 2")
        self.no_body("a.x() ^:= 2")
        self.no_body("a.x ^:= 2")
        self.no_body("(a) ^:= 2")
        self.no_body("a + b ^:= 2")
        self.no_body("^Foo := 2")
        self.no_body("'a' ^:= 2")

    def test_give_and_fail(self):
        for word in ("give", "fail"):
            self.statement(word + " a", (word, A))
            self.statement(word + " a or b", (word, ("or", A, B)))
            self.statement(word + " {}", (word, ("block", (), ())))
            self.no_body(word + "^")
            self.no_body(word + " ^end")
            self.no_body(word + "^; a end")
            self.no_body(word + " ^give a")
            self.no_body(word + " a ^:= 1")
            self.no_body(word + " a ^b")

    def test_eval(self):
        self.statement("a", run("a"))
        self.statement("a = b", ("eval", ("op", "=", A, B)))
        self.statement("a.x()", ("eval", ("send", A, "x", ())))
        self.statement("not a", ("eval", ("not", A)))
        self.statement("-a", ("eval", ("neg", A)))
        self.statement("{a}", ("eval", ("block", (), (run("a"),))))
        self.statement("(a)", ("eval", A))
        self.statement("'a'", ("eval", ("plain", "a")))
        self.statement("new Foo", ("eval", ("new", "Foo")))
        self.no_body("a ^b")
        self.no_body("^Foo")

    def test_while(self):
        self.statement("while a do b end", ("while", A, (run("b"),)))
        self.statement("while a do end", ("while", A, ()))
        self.statement("while not a do a; b end", ("while", ("not", A), (run("a"), run("b"))))
        self.no_body("while ^do end")
        self.no_body("while a ^then end")
        self.no_body("while a^; do end")
        self.no_body("while a ^:= 1 do end")
        self.no_body("while a do b ^else end")
        self.no_body("while a do b; ^end end")
        self.no_body("while ^while a do end do end")
        self.no_body("while a do end^")

    def test_if(self):
        self.statement("if a then b end", ("if", A, (run("b"),), ()))
        self.statement("if a then b else a end", ("if", A, (run("b"),), (run("a"),)))
        self.statement("if a then end", ("if", A, (), ()))
        self.statement("if a then else b end", ("if", A, (), (run("b"),)))
        self.statement("if a or b then a; b else b; a end",
                       ("if", ("or", A, B), (run("a"), run("b")), (run("b"), run("a"))))
        self.no_body("if ^then end")
        self.no_body("if a ^do end")
        self.no_body("if a ^b then end end")
        self.no_body("if a then ^then end")
        self.no_body("if a then b else a ^else b end")
        self.no_body("if a then else ^else b end")
        self.no_body("if a then ^; end")
        self.no_body("if a then b; ^else a end")
        self.no_body("if a then b else ^; end")
        self.no_body("if a then b else a; ^end")
        self.no_body("if a then b ^catch x then end")

    def test_else_with_nothing_behind_it(self):
        self.statement("if a then b else end", ("if", A, (run("b"),), ()))
        self.statement("if a then else end", ("if", A, (), ()))

    def test_else_belongs_to_the_innermost(self):
        inner = ("if", B, (run("x"),), (run("y"),))
        self.statement("if a then if b then x else y end end", ("if", A, (inner,), ()))
        inner = ("if", B, (run("x"),), ())
        self.statement("if a then if b then x end else y end", ("if", A, (inner,), (run("y"),)))

    def test_try(self):
        self.statement("try a catch x then b end", ("try", (run("a"),), "x", (run("b"),)))
        self.statement("try catch x then end", ("try", (), "x", ()))
        self.statement("try a; b catch x then end", ("try", (run("a"), run("b")), "x", ()))
        self.statement("try catch x then a; b end", ("try", (), "x", (run("a"), run("b"))))
        self.no_body("try a ^end")
        self.no_body("try a ^then end")
        self.no_body("try ^; catch x then end")
        self.no_body("try a; ^catch x then end")
        self.no_body("try a catch ^then end")
        self.no_body("try a catch ^1 then end")
        self.no_body("try a catch ^Foo then end")
        self.no_body("try a catch ^'x' then end")
        self.no_body("try a catch x ^do end")
        self.no_body("try a catch x^, y then end")
        self.no_body("try a catch x then ^; end")
        self.no_body("try a catch x then b; ^end")
        self.no_body("try a catch x then b ^else a end")
        self.no_body("^catch x then end")

    def test_keep(self):
        self.statement("keep a always b end", ("keep", (run("a"),), (run("b"),)))
        self.statement("keep always end", ("keep", (), ()))
        self.statement("keep a; b always end", ("keep", (run("a"), run("b")), ()))
        self.statement("keep always a; b end", ("keep", (), (run("a"), run("b"))))
        self.no_body("keep a ^end")
        self.no_body("keep ^; always end")
        self.no_body("keep a; ^always end")
        self.no_body("keep a always b; ^end")
        self.no_body("keep a always ^always end")
        self.no_body("keep a ^catch x then end")
        self.no_body("^always")

    def test_statements_within_each_other(self):
        self.statement(
            "while a do try keep if b then x := {give 1} end always fail a end catch e then end end",
            ("while", A, (
                ("try", (
                    ("keep", (
                        ("if", B, (("set", "x", ("block", (), (("give", ("plain", 1)),))),), ()),
                    ), (("fail", A),)),
                ), "e", ()),
            )))

    def test_words_where_a_name_is_asked_for(self):
        for word in WORDS:
            self.no_body("try catch ^" + word + " then end")

    def test_words_that_begin_no_statement(self):
        for word in ("method", "then", "else", "do", "catch", "always", "and", "or"):
            self.no_body("^" + word)
        for word in ("method", "var", "then", "else", "do", "catch", "always", "and", "or"):
            self.no_body("a; ^" + word)
            self.no_body("try catch x then ^" + word)
            self.no_body("{ ^" + word + " }")

    def test_a_word_is_not_set(self):
        for word in ("none", "true", "false", "self", "give", "fail", "if", "while", "try", "keep",
                     "not", "new", "super", "end", "var"):
            self.no_body(word + " ^:= 1 end")
        for word in ("method", "then", "else", "do", "catch", "always", "and", "or"):
            self.no_body("^" + word + " := 1 end")


class Bodies(ReadingCase):
    def test_statements_are_separated(self):
        self.assertEqual(read_method("method f() a; x := b; give a end"),
                         ("method", "f", (), (), (run("a"), ("set", "x", B), ("give", A))))
        self.no_body("a ^give b")
        self.no_body("x := 1 ^y := 2")
        self.no_body("while a do end ^b")
        self.no_body("try catch x then end ^try catch x then end")
        self.no_body("a^, b")

    def test_an_empty_body(self):
        self.assertEqual(read_method("method f() end"), ("method", "f", (), (), ()))

    def test_no_semicolon_behind_the_last(self):
        self.no_body("a;^")
        self.no_body("a; ^end")
        self.no_body("a; b; ^end")
        self.no_body("a; while a do b; ^end end")
        self.no_body("{ a; ^}")

    def test_no_semicolon_ahead_and_no_two(self):
        self.no_body("^; a")
        self.no_body("^;")
        self.no_body("a; ^; b")
        self.no_body("while a do ^; b end")


class Methods(ReadingCase):
    def method(self, text, *tree):
        self.assertEqual(read_method(text), ("method",) + tree)

    def test_parameters(self):
        self.method("method f() end", "f", (), (), ())
        self.method("method f(a) end", "f", ("a",), (), ())
        self.method("method f(b, a) a end", "f", ("b", "a"), (), (run("a"),))
        self.method("  method  f ( a , b )  end  ", "f", ("a", "b"), (), ())

    def test_variables(self):
        self.method("method f() var a; end", "f", (), ("a",), ())
        self.method("method f() var b, a; a end", "f", (), ("b", "a"), (run("a"),))
        self.method("method f(a, b) var c, d; a; b end", "f", ("a", "b"), ("c", "d"),
                    (run("a"), run("b")))

    def test_the_name_may_be_that_of_a_parameter(self):
        self.method("method f(f) end", "f", ("f",), (), ())
        self.method("method f() var f; end", "f", (), ("f",), ())

    def test_wrong_methods(self):
        for text in ("^", "  ^", "^a", "^f() end", "method^", "method ^Foo() end", "method ^1() end",
                     "method ^'f'() end", "method ^() end", "method f ^end", "method f ^a) end",
                     "method f(^, a) end", "method f(a,^) end", "method f(a ^b) end",
                     "method f(a^; b) end", "method f(^1) end", "method f(^Foo) end",
                     "method f(^(a)) end", "method f(a, ^2) end", "method f()^", "method f()^) end",
                     "^end"):
            self.no_method(text)

    def test_wrong_variables(self):
        for text in ("method f() var^", "method f() var ^; end", "method f() var ^end",
                     "method f() var ^, a; end", "method f() var a,^", "method f() var a ^b; end",
                     "method f() var a ^end", "method f() var a, ^; end",
                     "method f() var ^1; end", "method f() var ^Foo; end", "method f() var a ^:= 1; end",
                     "method f() var a; ^; end", "method f() var a; ^var b; end",
                     "method f() a; ^var b; end", "method f() var a ^| end", "method f(a ^var b) end"):
            self.no_method(text)

    def test_words_where_a_name_is_asked_for(self):
        for word in WORDS:
            self.no_method("method ^" + word + "() end")
            self.no_method("method f(^" + word + ") end")
            self.no_method("method f(a, ^" + word + ") end")
            self.no_method("method f() var ^" + word + "; end")
            self.no_method("method f() var a, ^" + word + "; end")

    def test_behind_the_end(self):
        for behind in ("end", ";", "a", "1", "'a'", "Foo", ")", "}", "method f() end", "none"):
            self.no_method("method f() end ^" + behind)
            self.no_method("method f() a end ^" + behind)

    def test_an_expression_is_no_method(self):
        for text in ("^1", "^{}", "^give 1", "^a + b"):
            self.no_method(text)


if __name__ == "__main__":
    unittest.main()
