"""Points 16 and 17: the instructions of each kind of statement and expression."""

import unittest

from livestead.codes import compile_method
from livestead.reading import read_method
from tests.listing import NONE, CodesCase


class Heads(CodesCase):
    def test_empty(self):
        self.method("method f() end", 0, NONE)

    def test_example(self):
        self.method("method f(a) give a + 1 end", 1,
                    (("local", 0, 0), ("push", 1), ("op", "+"), ("give",)) + NONE)

    def test_places(self):
        self.method("method f(a) end", 1, NONE)
        self.method("method f() var a, b; end", 2, NONE)
        self.method("method f(a, b) var c; end", 3, NONE)
        self.method("method f(a, b, c, d, e, g, h, i) var j, k, l, m, n, o, p, q; end", 16, NONE)

    def test_the_end_of_a_method(self):
        self.method("method f() a end", 0, (("global", "a"), ("pop",)) + NONE)
        self.method("method f() give 1 end", 0, (("push", 1), ("give",)) + NONE)

    def test_the_name_of_the_method_changes_nothing(self):
        self.assertEqual(compile_method(read_method("method f(a) f end")),
                         compile_method(read_method("method g(a) f end")))


class Plain(CodesCase):
    def test_values(self):
        for text, value in (("0", 0), ("1", 1), ("1000000000", 1000000000), ("''", ""),
                            ("'a b'", "a b"), ("'1'", "1"), ("none", None), ("true", True),
                            ("false", False)):
            self.method(f"method f() {text} end", 0, (("push", value), ("pop",)) + NONE)

    def test_neg_is_not_worked_out(self):
        self.gives("-5", "push 5\nneg")
        self.gives("--5", "push 5\nneg\nneg")
        self.gives("not true", "push True\nnot")
        self.gives("1 + 2", "push 1\npush 2\nop +")

    def test_self_and_new(self):
        self.gives("self", "self")
        self.gives("new Foo", "new Foo")


class Names(CodesCase):
    def test_places(self):
        self.gives("a", "local 0 0")
        self.gives("b", "local 0 1")
        self.gives("c", "local 0 2")

    def test_slots(self):
        self.gives("s", "slot s", slots=("r", "s"))
        self.gives("t", "global t", slots=("r", "s"))
        self.gives("s", "global s")

    def test_a_place_is_ahead_of_a_slot(self):
        self.gives("a", "local 0 0", slots=("a",))
        self.body("a := s", "slot s\nset local 0 0", slots=("a", "s"))

    def test_set(self):
        self.body("a := b", "local 0 1\nset local 0 0")
        self.body("c := 1", "push 1\nset local 0 2")
        self.body("s := 1", "push 1\nset slot s", slots=("s",))
        self.body("s := 1", "push 1\nset global s")
        self.body("s := s", "slot s\nset slot s", slots=("s",))

    def test_catch(self):
        lines = "try 3\ndone\njump 4\nset "
        self.body("try catch b then end", lines + "local 0 1")
        self.body("try catch s then end", lines + "slot s", slots=("s",))
        self.body("try catch s then end", lines + "global s")


class Signs(CodesCase):
    def test_op(self):
        for sign in ("=", "<", "<=", "+", "-", "*", "/"):
            self.gives(f"a {sign} b", f"local 0 0\nlocal 0 1\nop {sign}")

    def test_parts_in_their_order(self):
        self.gives("a - (b - c)", "local 0 0\nlocal 0 1\nlocal 0 2\nop -\nop -")
        self.gives("a - b - c", "local 0 0\nlocal 0 1\nop -\nlocal 0 2\nop -")
        self.gives("a + b * c", "local 0 0\nlocal 0 1\nlocal 0 2\nop *\nop +")

    def test_ahead(self):
        self.gives("-a", "local 0 0\nneg")
        self.gives("not a", "local 0 0\nnot")
        self.gives("not (a = -b)", "local 0 0\nlocal 0 1\nneg\nop =\nnot")


class Sends(CodesCase):
    def test_send(self):
        self.gives("a.x()", "local 0 0\nsend x 0")
        self.gives("a.x(b)", "local 0 0\nlocal 0 1\nsend x 1")
        self.gives("a.x(b, c)", "local 0 0\nlocal 0 1\nlocal 0 2\nsend x 2")
        self.gives("a.x().y(c)", "local 0 0\nsend x 0\nlocal 0 2\nsend y 1")
        self.gives("a.x(b.y(), c)", "local 0 0\nlocal 0 1\nsend y 0\nlocal 0 2\nsend x 2")
        self.gives("self.f(1, 2, 3, 4, 5, 6, 7, 8)",
                   "self\n" + "\n".join(f"push {k}" for k in range(1, 9)) + "\nsend f 8")

    def test_super(self):
        self.gives("super.x()", "super Thing x 0")
        self.gives("super.x(a, b)", "local 0 0\nlocal 0 1\nsuper Thing x 2")
        self.gives("super.x()", "super Foo x 0", owner="Foo")
        self.gives("super.x(super.y(a))", "local 0 0\nsuper Foo y 1\nsuper Foo x 1", owner="Foo")

    def test_owner_and_slots_have_defaults(self):
        tree = read_method("method f() super.x(s) end")
        self.assertEqual(compile_method(tree), compile_method(tree, owner="Thing", slots=()))


class AndOr(CodesCase):
    def test_and(self):
        self.gives("a and b",
                   "local 0 0\nunless 6\nlocal 0 1\nunless 6\npush True\njump 7\npush False")

    def test_or(self):
        self.gives("a or b", "local 0 0\nunless 4\npush True\njump 9\n"
                             "local 0 1\nunless 8\npush True\njump 9\npush False")

    def test_and_in_and(self):
        self.gives("a and b and c", """
            local 0 0
            unless F1
            local 0 1
            unless F1
            push True
            jump E1
            F1:
            push False
            E1:
            unless F2
            local 0 2
            unless F2
            push True
            jump E2
            F2:
            push False
            E2:""")
        self.gives("a and (b and c)", """
            local 0 0
            unless F2
            local 0 1
            unless F1
            local 0 2
            unless F1
            push True
            jump E1
            F1:
            push False
            E1:
            unless F2
            push True
            jump E2
            F2:
            push False
            E2:""")

    def test_or_in_or(self):
        self.gives("a or (b or c)", """
            local 0 0
            unless R1
            push True
            jump E1
            R1:
            local 0 1
            unless R2
            push True
            jump E2
            R2:
            local 0 2
            unless F2
            push True
            jump E2
            F2:
            push False
            E2:
            unless F1
            push True
            jump E1
            F1:
            push False
            E1:""")

    def test_and_in_or(self):
        self.gives("a or b and c", """
            local 0 0
            unless R1
            push True
            jump E1
            R1:
            local 0 1
            unless F2
            local 0 2
            unless F2
            push True
            jump E2
            F2:
            push False
            E2:
            unless F1
            push True
            jump E1
            F1:
            push False
            E1:""")

    def test_or_in_and(self):
        self.gives("(a or b) and c", """
            local 0 0
            unless R1
            push True
            jump E1
            R1:
            local 0 1
            unless F1
            push True
            jump E1
            F1:
            push False
            E1:
            unless F2
            local 0 2
            unless F2
            push True
            jump E2
            F2:
            push False
            E2:""")

    def test_in_other_places(self):
        self.body("if a and b then c end", """
            local 0 0
            unless F1
            local 0 1
            unless F1
            push True
            jump E1
            F1:
            push False
            E1:
            unless F2
            local 0 2
            pop
            F2:""")
        self.gives("self.x(a or b, not (a and b))", """
            self
            local 0 0
            unless R1
            push True
            jump E1
            R1:
            local 0 1
            unless F1
            push True
            jump E1
            F1:
            push False
            E1:
            local 0 0
            unless F2
            local 0 1
            unless F2
            push True
            jump E2
            F2:
            push False
            E2:
            not
            send x 2""")


class Simple(CodesCase):
    def test_statements(self):
        self.body("give a", "local 0 0\ngive")
        self.body("fail a", "local 0 0\nfail")
        self.body("a", "local 0 0\npop")
        self.body("a := -1", "push 1\nneg\nset local 0 0")

    def test_in_their_order(self):
        self.body("a; b := 1; give c; a",
                  "local 0 0\npop\npush 1\nset local 0 1\nlocal 0 2\ngive\nlocal 0 0\npop")


class While(CodesCase):
    def test_while(self):
        self.body("while a do b end", "local 0 0\nunless 5\nlocal 0 1\npop\njump 0")
        self.body("while a do end", "local 0 0\nunless 3\njump 0")
        self.body("b; while a < 1 do a; b end", """
            local 0 1
            pop
            local 0 0
            push 1
            op <
            unless 11
            local 0 0
            pop
            local 0 1
            pop
            jump 2""")

    def test_while_in_while(self):
        self.body("while a do while b do end end",
                  "local 0 0\nunless 6\nlocal 0 1\nunless 5\njump 2\njump 0")


class If(CodesCase):
    def test_without_else(self):
        self.body("if a then b end", "local 0 0\nunless 4\nlocal 0 1\npop")
        self.body("if a then end", "local 0 0\nunless 2")

    def test_with_else(self):
        self.body("if a then b else c end", """
            local 0 0
            unless 5
            local 0 1
            pop
            jump 7
            local 0 2
            pop""")
        self.body("if a then else c end", "local 0 0\nunless 3\njump 5\nlocal 0 2\npop")

    def test_empty_else_is_none(self):
        self.body("if a then b else end", "local 0 0\nunless 4\nlocal 0 1\npop")

    def test_if_in_if(self):
        self.body("if a then if b then c end else if b then else c end end", """
            local 0 0
            unless 7
            local 0 1
            unless 6
            local 0 2
            pop
            jump 12
            local 0 1
            unless 10
            jump 12
            local 0 2
            pop""")

    def test_behind_it(self):
        self.body("if a then end; b", "local 0 0\nunless 2\nlocal 0 1\npop")


class TryAndKeep(CodesCase):
    def test_try(self):
        self.body("try a catch c then b end", """
            try 5
            local 0 0
            pop
            done
            jump 8
            set local 0 2
            local 0 1
            pop""")
        self.body("try catch c then end", "try 3\ndone\njump 4\nset local 0 2")
        self.body("try a catch c then end", "try 5\nlocal 0 0\npop\ndone\njump 6\nset local 0 2")
        self.body("try catch c then b end",
                  "try 3\ndone\njump 6\nset local 0 2\nlocal 0 1\npop")

    def test_keep(self):
        self.body("keep a always b end", """
            keep 4
            local 0 0
            pop
            always
            local 0 1
            pop
            resume""")
        self.body("keep always end", "keep 2\nalways\nresume")
        self.body("keep a always end", "keep 4\nlocal 0 0\npop\nalways\nresume")
        self.body("keep always b end", "keep 2\nalways\nlocal 0 1\npop\nresume")

    def test_within_one_another(self):
        self.body("try keep a always b end catch c then keep always end end", """
            try 10
            keep 5
            local 0 0
            pop
            always
            local 0 1
            pop
            resume
            done
            jump 14
            set local 0 2
            keep 13
            always
            resume""")
        self.body("keep try catch a then end always try catch b then end end", """
            keep 6
            try 4
            done
            jump 5
            set local 0 0
            always
            try 9
            done
            jump 10
            set local 0 1
            resume""")

    def test_try_in_try(self):
        self.body("try try catch a then end catch b then try catch c then end end", """
            try 7
            try 4
            done
            jump 5
            set local 0 0
            done
            jump 12
            set local 0 1
            try 11
            done
            jump 12
            set local 0 2""")


class Kinds(CodesCase):
    def test_codes_are_tuples_throughout(self):
        code = compile_method(read_method("method f() {a | {b}}; give 1 end"))
        waiting = [code]
        while waiting:
            part = waiting.pop()
            self.assertIsInstance(part, tuple)
            waiting.extend([inner for inner in part if isinstance(inner, (tuple, list, dict))])

    def test_a_call_leaves_nothing_to_the_next(self):
        tree = read_method("method f(a) {b | a + b; s}; super.x() end")
        first = compile_method(tree, owner="Foo", slots=("s",))
        compile_method(tree)
        self.assertEqual(compile_method(tree, owner="Foo", slots=("s",)), first)
        self.assertEqual(tree, read_method("method f(a) {b | a + b; s}; super.x() end"))


if __name__ == "__main__":
    unittest.main()
