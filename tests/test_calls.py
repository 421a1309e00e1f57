"""Points 22 and 25: how methods are found, super, blocks and their places, givings."""

import unittest

from tests.living import LivingCase, made, make, state_of


class Found(LivingCase):
    ROWS = ("class A", "class B < A", "class C < B", "A method f() give 'A' end",
            "B method f() give 'B' end", "A method g() give self.f() end",
            "A method f(a) give a end")

    def test_in_the_class_of_the_receiver_and_above(self):
        self.done("give (new A).f()", "A", *self.ROWS)
        self.done("give (new B).f()", "B", *self.ROWS)
        self.done("give (new C).f()", "B", *self.ROWS)
        self.done("give (new C).f(5)", 5, *self.ROWS)

    def test_from_the_class_of_the_receiver_also_within_a_method(self):
        self.done("give (new C).g()", "B", *self.ROWS)
        self.done("give (new A).g()", "A", *self.ROWS)

    def test_by_name_and_number_of_parameters(self):
        self.failed("give (new C).f(1, 2)", "not understood", *self.ROWS)
        self.failed("give (new C).h()", "not understood", *self.ROWS)
        self.failed("give (new B).g(1)", "not understood", *self.ROWS)

    def test_a_method_called_call(self):
        self.done("give (new A).call(2)", 2, "class A", "A method call(a) give a end")

    def test_no_method_of_a_class_beside_it(self):
        self.failed("(new D).f()", "not understood", *self.ROWS, "class D")
        self.failed("(new Thing).f()", "not understood", *self.ROWS)


class Super(LivingCase):
    ROWS = ("class A", "class B < A", "class C < B", "A method f() give 'A' end",
            "B method f() give 'B' + super.f() end", "C method f() give 'C' + super.f() end")

    def test_from_the_class_above_on(self):
        self.done("give (new C).f()", "CBA", *self.ROWS)
        self.done("give (new B).f()", "BA", *self.ROWS)

    def test_from_the_class_that_the_method_is_compiled_for(self):
        rows = self.ROWS + ("class D < C", "D method g() give super.f() end", "class E < D",
                            "E method f() give 'E' end")
        self.done("give (new E).g()", "CBA", *rows)

    def test_the_receiver_stays(self):
        rows = ("class A", "class B < A", "A method f() give self.g() end",
                "B method f() give super.f() end", "A method g() give 1 end", "B method g() give 2 end")
        self.done("give (new B).f()", 2, *rows)

    def test_arguments(self):
        rows = ("class A", "class B < A", "A method f(a, b) give a - b end",
                "B method f(a) give super.f(a, 1) end")
        self.done("give (new B).f(5)", 4, *rows)

    def test_in_a_block(self):
        rows = ("class A", "class B < A", "A method f() give 'A' end",
                "B method f() give {super.f()}.call() end")
        self.done("give (new B).f()", "A", *rows)

    def test_nothing_above(self):
        self.failed("super.f()", "not understood")
        self.failed("(new A).f()", "not understood", "class A", "A method f() give super.f() end")
        self.failed("(new A).g()", "not understood", "class A", "A method g() give super.f(1) end",
                    "A method f(a) end")

    def test_the_class_is_not_there_any_more(self):
        image = made("class A", "class B < A", "A method f() give 1 end",
                     "B method b() give {super.f()} end")
        self.same(state_of(image, "a := (new B).b(); give a.call()"), ("done", 1))
        make(image, "no class B")
        self.same(state_of(image, "give a.call()"), ("failed", "not understood"))
        make(image, "class B < Thing")
        self.same(state_of(image, "give a.call()"), ("failed", "not understood"))
        make(image, "no class B")
        make(image, "class B < A")
        self.same(state_of(image, "give a.call()"), ("done", 1))


class Arguments(LivingCase):
    ROWS = ("class A", "A method f(a, b) var c; c := a; a := b; give a * 10 + c end",
            "A method n() var c; give c end")

    def test_places(self):
        self.done("give (new A).f(1, 2)", 21, *self.ROWS)
        self.done("var c; c := 5; (new A).f(1, 2); give c", 5, *self.ROWS)

    def test_variables_begin_with_none(self):
        self.done("var c; give c", None)
        self.done("(new A).f(1, 2); give (new A).n()", None, *self.ROWS)

    def test_the_order(self):
        rows = ("class A", "A method f(a, b) end", "A method n(k) g := g + k; give self end")
        self.done("g := ''; (new A).n('r').f((new A).n('a'), (new A).n('b')); give g", "rab", *rows)

    def test_the_receiver(self):
        self.done("give self", None)
        self.done("a := new A; give a.me() = a", True, "class A", "A method me() give self end")

    def test_eight_arguments(self):
        self.done("give (new A).f(1, 2, 3, 4, 5, 6, 7, 8)", 16, "class A",
                  "A method f(a, b, c, d, e, f, g, h) give a + b * c - d + e + h end")

    def test_a_method_without_give(self):
        self.done("give (new A).f()", None, "class A", "A method f() 5 end")
        self.done("5", None)
        self.done("", None)


class Blocks(LivingCase):
    def test_what_they_come_to(self):
        self.done("give {5}.call()", 5)
        self.done("give {a := 5}.call()", None)
        self.done("give {5; 6}.call()", 6)
        self.done("give {}.call()", None)
        self.done("give {a | }.call(1)", None)
        self.done("give {if true then 5 end}.call()", None)

    def test_as_many_arguments_as_parameters(self):
        self.done("give {a, b, c, d | a + b - c * d}.call(1, 2, 3, 4)", -9)
        for body in ("{5}.call(1)", "{a | a}.call()", "{a | a}.call(1, 2)", "{a, b | a}.call(1)"):
            self.failed(body, "not understood")

    def test_nothing_but_call(self):
        for body in ("{5}.f()", "{5}.value()", "{a | a}.f(1)", "{5}.cal()"):
            self.failed(body, "not understood")

    def test_plain_values_understand_nothing(self):
        for text in ("5", "'t'", "none", "true", "false", "self"):
            self.failed(f"{text}.call()", "not understood")
            self.failed(f"{text}.f(1)", "not understood")

    def test_places_around(self):
        self.done("var a; a := 1; {a := a + 1}.call(); give a", 2)
        self.done("var a, b; a := 1; b := {a}; a := 5; give b.call()", 5)
        self.done("var a; a := 1; {x | {y | a := a * 10 + x + y}.call(3)}.call(2); give a", 15)

    def test_a_parameter_in_front_of_what_is_around(self):
        self.done("var a; a := 1; {a | a := 7}.call(5); give a", 1)
        self.done("var a; a := 1; give {a | {a}.call()}.call(5)", 5)

    def test_each_call_has_its_own_places(self):
        self.done("var f, a, b; f := {n | {n := n + 1; n}}; a := f.call(0); b := f.call(10); a.call(); "
                  "give a.call() * 100 + b.call()", 211)

    def test_places_of_a_method_that_has_been_left(self):
        rows = ("class A", "A method counter(n) give {n := n + 1; n} end")
        self.done("var a, b; a := (new A).counter(0); b := (new A).counter(5); a.call(); "
                  "give a.call() * 10 + b.call()", 26, *rows)

    def test_the_receiver_is_that_of_the_method(self):
        rows = ("class A x", "A method f() x := 1; give {self.g(); x} end", "A method g() x := x + 1 end")
        self.done("give (new A).f().call()", 2, *rows)
        self.done("give {self}.call()", None)

    def test_a_block_that_calls_itself(self):
        self.done("var f; f := {n | if n = 0 then 0 else g := g + n; f.call(n - 1) end}; g := 0; "
                  "f.call(4); give g", 10)


class Givings(LivingCase):
    def test_out_of_a_block(self):
        self.done("{give 5}.call(); give 6", 5)
        self.done("{{give 5}.call()}.call(); give 6", 5)

    def test_out_of_a_block_that_another_method_calls(self):
        rows = ("class A", "A method run(b) b.call(); g := 1; give 2 end",
                "A method find() self.run({give 7}); give 8 end")
        self.comes_to("g := 0; h := (new A).find(); give h * 10 + g", ("done", 70), rows)

    def test_the_frames_above_are_left(self):
        image = made("class A", "A method run(b) b.call() end", "A method find() self.run({give 7}) end")
        image.start("method f() (new A).find(); a := 1 end")
        depths = []
        while image.advance(1):
            depths.append(image.depth())
        self.assertEqual(max(depths), 4)
        where = depths.index(4)
        self.assertIn(1, depths[where:])
        self.assertNotIn(2, depths[where:])

    def test_of_the_method_that_the_block_stands_in(self):
        rows = ("class A", "A method f(n, b) if n = 0 then self.f(1, {give 'outer'}) "
                           "else b.call(); give 'inner' end; give 'end' end")
        self.done("give (new A).f(0, none)", "outer", *rows)

    def test_too_late(self):
        rows = ("class A", "A method f() give {give 1} end")
        self.failed("(new A).f().call()", "given too late", *rows)
        self.done("try (new A).f().call() catch e then give e end", "given too late", *rows)

    def test_too_late_in_the_same_method_called_again(self):
        rows = ("class A", "A method f(b) if b = none then give {give 1} end; b.call(); give 2 end")
        self.failed("give (new A).f((new A).f(none))", "given too late", *rows)

    def test_too_late_in_a_later_task(self):
        for optimized in (False, True):
            image = made()
            state_of(image, "b := {give 1}; b.call()", optimized)
            self.same(image.state(), ("done", 1))
            self.same(state_of(image, "b.call(); give 2", optimized), ("failed", "given too late"))

    def test_the_value_comes_first(self):
        rows = ("class A", "A method f() give {give 1 + 'a'} end")
        self.failed("(new A).f().call()", "wrong kind", *rows)


if __name__ == "__main__":
    unittest.main()
