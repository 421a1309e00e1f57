"""Point 24: the failures that the machine makes, caught and not caught."""

import unittest

from livestead.images import Image
from tests.living import LivingCase, begun, fill, made, make, state_of

OTHER = ("5", "0", "'true'", "''", "none", "{}", "new Thing")


class FailuresCase(LivingCase):
    def makes(self, body, text, *rows):
        """A failure that ends the task, that a try catches, and that leaves blocks on its way."""
        self.failed(body, text, *rows)
        self.done(f"try {body} catch e then give e end", text, *rows)
        self.done("try {" + body + "}.call() catch e then give e end; give 1", text, *rows)


class NotATruth(FailuresCase):
    def test_where_a_truth_is_asked_for(self):
        for text in OTHER:
            self.makes(f"if {text} then end", "not a truth")
            self.makes(f"while {text} do end", "not a truth")
            self.makes(f"not {text}", "not a truth")
            self.makes(f"{text} and true", "not a truth")
            self.makes(f"true and {text}", "not a truth")
            self.makes(f"{text} or true", "not a truth")
            self.makes(f"false or {text}", "not a truth")

    def test_only_where_it_is_asked_for(self):
        self.done("give false and 5", False)
        self.done("give true or 5", True)


class WrongKind(FailuresCase):
    def test_neg(self):
        for text in ("'t'", "none", "true", "false", "{}", "new Thing"):
            self.makes(f"-{text}", "wrong kind")
        self.done("give -(-(5))", 5)
        self.done("give -1000000000", -1000000000)

    def test_signs(self):
        for sign in ("+", "-", "*", "/", "<", "<="):
            for left, right in (("1", "'t'"), ("'t'", "1"), ("1", "true"), ("none", "none"),
                                ("true", "false"), ("{}", "1"), ("new Thing", "new Thing"), ("'t'", "none")):
                self.makes(f"a := {left} {sign} {right}", "wrong kind")
        for sign in ("-", "*", "/"):
            self.makes(f"a := 't' {sign} 't'", "wrong kind")

    def test_wrong_kind_ahead_of_by_nothing(self):
        self.makes("'t' / 0", "wrong kind")
        self.makes("true / 0", "wrong kind")


class Numbers(FailuresCase):
    def test_by_nothing(self):
        self.makes("1 / 0", "by nothing")
        self.makes("0 / 0", "by nothing")
        self.done("give 0 / 5", 0)
        self.done("give -7 / 2", -4)
        self.done("give 7 / -2", -4)

    def test_too_large(self):
        self.makes("1000000000 + 1", "too large")
        self.makes("-1000000000 - 1", "too large")
        self.makes("1000000000 * 1000000000", "too large")
        self.done("give 999999999 + 1", 1000000000)
        self.done("give -999999999 - 1", -1000000000)

    def test_too_long(self):
        image = Image()
        image.put("a", "x" * 100)
        self.same(state_of(image, "give a + a"), ("done", "x" * 200))
        self.same(state_of(image, "give a + a + 'y'"), ("failed", "too large"))


class Missing(FailuresCase):
    ROWS = ("class A x", "A method get() give x end", "A method set(a) x := a end",
            "A method kept() give {x} end", "A method setter() give {a | x := a} end")

    def test_no_global(self):
        self.makes("a", "no global")
        self.makes("b := a", "no global")

    def test_no_slot_any_more(self):
        for optimized in (False, True):
            image = made(*self.ROWS)
            state_of(image, "a := new A; a.set(3); b := a.kept(); c := a.setter()", optimized)
            make(image, "no slot A x")
            self.same(state_of(image, "b.call()", optimized), ("failed", "no slot"))
            self.same(state_of(image, "try c.call(5) catch e then give e end", optimized),
                      ("done", "no slot"))
            self.same(image.look(1), ("instance", "A", (("x", 3),)))
            make(image, "slot A x")
            self.same(state_of(image, "c.call(6); give b.call()", optimized), ("done", 6))

    def test_no_slot_where_the_class_is_not_there(self):
        image = made(*self.ROWS)
        state_of(image, "a := new A; b := a.kept(); c := a.setter()")
        make(image, "no class A")
        self.same(state_of(image, "b.call()"), ("failed", "no slot"))
        self.same(state_of(image, "c.call(1)"), ("failed", "no slot"))

    def test_no_slot_while_a_method_runs(self):
        image = begun(made(*self.ROWS), "a := new A; a.set(1); give a.get()")
        while image.depth() < 2:
            image.advance(1)
        image.advance(1)
        make(image, "no slot A x")
        image.advance(1)
        self.same(image.state(), ("failed", "no slot"))
        self.same(image.look(1), ("instance", "A", ()))

    def test_a_slot_of_another_class_with_this_name(self):
        image = made(*self.ROWS, "class B x")
        state_of(image, "a := new A; b := a.kept()")
        make(image, "no slot A x")
        self.same(state_of(image, "b.call()"), ("failed", "no slot"))

    def test_no_class(self):
        self.makes("new A", "no class")
        image = made("class A")
        make(image, "no class A")
        self.same(state_of(image, "new A"), ("failed", "no class"))
        image.undo()
        self.same(state_of(image, "new A; give 1"), ("done", 1))

    def test_no_class_ahead_of_memory(self):
        image = made("class A")
        fill(image, 60)
        self.same(state_of(image, "new A"), ("failed", "memory"))
        self.same(state_of(image, "new B"), ("failed", "no class"))


class TooDeep(FailuresCase):
    ROWS = ("class A", "A method down(n) if n = 0 then give 'ground' end; give self.down(n - 1) end",
            "A method block(n) if n = 0 then give 'ground' end; give {self.block(n - 1)}.call() end")

    def test_the_12th_and_the_13th_frame(self):
        self.done("give (new A).down(10)", "ground", *self.ROWS)
        self.makes("(new A).down(12)", "too deep", *self.ROWS)
        self.failed("give (new A).down(11)", "too deep", *self.ROWS)

    def test_by_blocks(self):
        self.done("give (new A).block(5)", "ground", *self.ROWS)
        self.failed("give (new A).block(6)", "too deep", *self.ROWS)
        self.done("var f; f := {n | if n = 0 then give 'ground' end; f.call(n - 1)}; f.call(10)", "ground")
        self.failed("var f; f := {n | if n = 0 then give 'ground' end; f.call(n - 1)}; f.call(11)",
                    "too deep")

    def test_the_depth_is_12(self):
        image = begun(made(*self.ROWS), "(new A).down(11)")
        depths = [image.depth()]
        while image.advance(1):
            depths.append(image.depth())
        self.assertEqual(max(depths), 12)

    def test_not_understood_ahead_of_too_deep(self):
        rows = ("class A", "A method down(n) if n = 0 then g := self; g.missing() end; self.down(n - 1) end",
                "A method plain(n) if n = 0 then n.f() end; self.plain(n - 1) end",
                "A method block(n) if n = 0 then {}.call(1) end; self.block(n - 1) end",
                "A method above(n) if n = 0 then super.f() end; self.above(n - 1) end")
        for name in ("down", "plain", "block", "above"):
            self.failed(f"(new A).{name}(10)", "not understood", *rows)

    def test_super_too_deep(self):
        rows = ("class A", "class B < A", "A method f() give 'ground' end",
                "B method down(n) if n = 0 then give super.f() end; give self.down(n - 1) end")
        self.done("give (new B).down(9)", "ground", *rows)
        self.failed("give (new B).down(10)", "too deep", *rows)

    def test_a_try_in_the_12th_frame_catches_it(self):
        rows = ("class A", "A method down(n) if n = 0 then try self.down(0) catch e then give e end end; "
                           "give self.down(n - 1) end")
        self.done("give (new A).down(10)", "too deep", *rows)


class Taken(LivingCase):
    """What an instruction takes away from the stack has been taken away when it fails."""

    def test_in_the_middle_of_an_expression(self):
        # A try within an expression needs a block: the parts around it wait in their own frame.
        for inner in ("1 + 'a'", "-'a'", "not 1", "none.f(1, 2)", "missing", "new Missing", "1 / 0"):
            self.done("give 1 + {r := 0; try " + inner + " catch e then r := 5 end; r}.call() * 2", 11)

    def test_the_value_is_not_put(self):
        self.comes_to("try a := 1 + none catch e then give a end", ("done", 7), (), (("a", 7),))
        self.comes_to("try a := 1; a := none + 1 catch e then give a end", ("done", 1), (), (("a", 7),))

    def test_what_was_done_before_stays(self):
        rows = ("class A", "A method n(k) g := k; give k end")
        self.done("try (new A).n(1) + (new A).n(2) + none + (new A).n(3) catch e then give g end", 2, *rows)
        self.done("try none.f((new A).n(4)) catch e then give g end", 4, *rows)


if __name__ == "__main__":
    unittest.main()
