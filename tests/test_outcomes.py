"""Points 44 to 46: what try, keep and calls make of what their parts come to."""

import unittest

from tests.living import begun, fill, made, make, state_of
from tests.meant import FAILURE, GIVING, MeaningCase, meaning_of

WELL = ("done", None)


class Try(MeaningCase):
    def test_a_body_that_is_well(self):
        self.logs("try g := g + 'b' catch e then g := g + 'h' end; g := g + 'n'", "bn", WELL)
        self.gives("var e; e := 1; try 5 catch e then e := 2 end; give e", 1)
        self.gives("try catch e then give 1 end; give 2", 2)

    def test_a_failure_in_the_body(self):
        self.logs("try g := g + 'b'; fail 5; g := g + 'x' catch e then g := g + 'h' end; give e", "bh",
                  ("done", 5))
        self.gives("try fail 1 catch e then end; give e", 1)

    def test_failures_of_all_kinds(self):
        for text, value in (("fail none", None), ("fail 't'", "t"), ("1 / 0", "by nothing"),
                            ("not 1", "not a truth"), ("-none", "wrong kind"), ("h", "no global"),
                            ("new B", "no class"), ("1.f()", "not understood"), ("super.f()", "not understood"),
                            ("1000000000 + 1", "too large"), (FAILURE, 7)):
            self.gives(f"try {text} catch e then give e end; give 'well'", value)

    def test_the_value_may_be_an_object(self):
        after = self.gives("var a; try a := new A; fail a catch e then give e = a end", True, "class A")
        self.same(after.global_values(), {"e": ("object", 1)})

    def test_a_failure_in_the_handler(self):
        self.logs("try fail 1 catch e then g := g + 'h'; fail 2; g := g + 'x' end; g := g + 'n'", "h",
                  ("failed", 2))
        self.logs("try try fail 1 catch e then fail 2 end catch f then g := g + 'o' end; give e * 10 + f", "o",
                  ("done", 12))

    def test_a_giving_in_the_handler(self):
        self.logs("try fail 1 catch e then give e; g := 'x' end; g := 'y'", "", ("done", 1))
        self.gives(f"try fail 1 catch e then {GIVING} end; give 9", 8)

    def test_a_giving_in_the_body(self):
        self.logs("try give 5 catch e then g := g + 'h' end; g := g + 'n'", "", ("done", 5))
        self.logs(f"try {GIVING} catch e then g := g + 'h' end; g := g + 'n'", "", ("done", 8))

    def test_where_the_value_is_put(self):
        self.gives("var e; try fail 5 catch e then end; give e", 5)
        self.gives("give {e | try fail 5 catch e then end; e}.call(1)", 5)
        self.gives("var e; {try fail 5 catch e then end}.call(); give e", 5)
        self.gives("var a; a := new A; a.f(); give a.get()", 5, "class A s", "A method get() give s end",
                   "A method f() try fail 5 catch s then end end")
        self.same(self.gives("try fail 5 catch e then end", None).global_values(), {"e": 5})

    def test_a_slot_that_is_not_there(self):
        for body, outcome in (("b.call()", ("failed", "no slot")),
                              ("try b.call() catch e then give e end", ("done", "no slot"))):
            image = made("class A s", "A method f() give {try fail 5 catch s then g := 1 end; g := 2} end")
            state_of(image, "b := (new A).f()")
            make(image, "no slot A s")
            found, after = meaning_of(image, body)
            self.same(found, outcome)
            self.assertNotIn("g", after.global_values())
            self.same(after.look(1), ("instance", "A", ()))
            self.same(state_of(image, body), outcome)

    def test_a_slot_that_is_not_there_within_two(self):
        image = made("class A s", "A method f() give {try try fail 5 catch s then give 1 end catch e then "
                                  "g := e end; g + '!'} end")
        state_of(image, "b := (new A).f()")
        make(image, "no slot A s")
        self.same(meaning_of(image, "give b.call()")[0], ("done", "no slot!"))
        self.same(state_of(image, "give b.call()"), ("done", "no slot!"))

    def test_the_innermost_catches(self):
        self.logs("try try fail 1 catch e then g := g + 'i' end; g := g + 'b' catch e then g := g + 'o' end",
                  "ib", WELL)
        self.logs("try fail 1 catch e then try fail 2 catch e then g := g + 'h' end end; give e", "h",
                  ("done", 2))

    def test_out_of_calls(self):
        rows = ("A method deep(k) if k = 0 then fail 'd' end; self.deep(k - 1); g := 'x' end",)
        self.logs("try (new A).deep(5) catch e then g := g + e end", "d", WELL, *rows)
        self.logs("try {{fail 'i'}.call()}.call() catch e then g := g + e end", "i", WELL)

    def test_what_was_done_stays(self):
        self.gives("var a; a := 1; try a := 2; fail 0; a := 3 catch e then end; give a", 2)


class Keep(MeaningCase):
    BODIES = (("g := g + 'b'", "b", None), ("g := g + 'b'; fail 1; g := 'x'", "b", ("failed", 1)),
              ("g := g + 'b'; give 2; g := 'x'", "b", ("done", 2)), ("", "", None),
              (FAILURE, "", ("failed", 7)), (GIVING, "", ("done", 8)))
    LASTS = (("g := g + 'l'", "l", None), ("g := g + 'l'; fail 3; g := 'x'", "l", ("failed", 3)),
             ("g := g + 'l'; give 4; g := 'x'", "l", ("done", 4)), ("", "", None))

    def test_each_outcome_of_the_body_against_each_of_the_last_part(self):
        for body, body_log, body_outcome in self.BODIES:
            for last, last_log, last_outcome in self.LASTS:
                outcome = last_outcome or body_outcome
                log = body_log + last_log + ("" if outcome else "n")
                self.logs(f"keep {body} always {last} end; g := g + 'n'", log, outcome or WELL)

    def test_within_try(self):
        for body, body_log, body_outcome in self.BODIES:
            for last, last_log, last_outcome in self.LASTS:
                outcome = last_outcome or body_outcome or WELL
                log, wanted = body_log + last_log, outcome
                if outcome[0] == "failed":
                    log, wanted = log + "h", ("done", outcome[1])
                self.logs(f"try keep {body} always {last} end catch e then g := g + 'h'; give e end", log, wanted)

    def test_one_in_the_other(self):
        for inner, outcome in (("fail 1", ("failed", 1)), ("give 1", ("done", 1)), ("1", WELL)):
            self.logs(f"keep keep {inner} always g := g + 'i' end always g := g + 'o' end", "io", outcome)
            self.logs(f"keep keep {inner} always fail 5 end always g := g + 'o' end", "o", ("failed", 5))
            self.logs(f"keep {inner} always keep g := g + 'b' always g := g + 'c' end end", "bc", outcome)
            self.logs(f"keep {inner} always try fail 2 catch e then g := g + 'h' end end", "h", outcome)
            self.logs(f"keep {inner} always keep give 5 always g := g + 'c' end end", "c", ("done", 5))

    def test_on_the_way_of_a_giving(self):
        rows = ("A method use(b) keep b.call(); g := 'x' always g := g + 'd' end end",)
        self.logs("keep (new A).use({give 5}); g := 'x' always g := g + 'r' end", "dr", ("done", 5), *rows)
        self.logs("try (new A).use({fail 5}) catch e then g := g + 'h' end; give e", "dh", ("done", 5), *rows)
        self.logs("(new A).use({keep (new A).use({give 6}) always g := g + 'b' end})", "dbd", ("done", 6), *rows)

    def test_a_giving_is_stopped_on_its_way(self):
        rows = ("A method use(b) keep b.call() always fail 'stop' end end",
                "A method end1(b) keep b.call() always give 3 end end")
        self.logs("try (new A).use({give 5}) catch e then g := g + e end; give 6", "stop", ("done", 6), *rows)
        self.logs("give (new A).end1({give 5}) + 1", "", ("done", 4), *rows)
        self.logs("give (new A).end1({fail 5}) + 1", "", ("done", 4), *rows)

    def test_in_a_loop(self):
        self.logs("while true do keep give 1 always g := g + 'l' end end", "l", ("done", 1))
        self.logs("var n; n := 0; while n < 3 do keep n := n + 1 always g := g + 'l' end end", "lll", WELL)


class Methods(MeaningCase):
    def test_places(self):
        self.gives("give (new A).f(1, 2)", 12, "class A", "A method f(a, b) give a * 10 + b end")
        self.gives("give (new A).f(1)", None, "class A", "A method f(a) var b; give b end")
        self.gives("give (new A).f(1)", None, "class A",
                   "A method f(a) var b; if a = 1 then b := 5; give self.f(2) end; give b end")
        self.gives("give (new A).f(1, 2, 3, 4, 5, 6, 7, 8)", 87, "class A",
                   "A method f(a, b, c, d, e, f, g, h) give h * 10 + g end")

    def test_what_they_come_to(self):
        rows = ("class A", "A method nothing() end", "A method one() 5 end", "A method two() give 6; give 7 end",
                "A method three() fail 8 end")
        self.gives("give (new A).nothing()", None, *rows)
        self.gives("give (new A).one()", None, *rows)
        self.gives("give (new A).two() + 1", 7, *rows)
        self.fails("give (new A).three()", 8, *rows)

    def test_givings_to_another_call_are_handed_on(self):
        rows = ("class A", "A method use(b) b.call(); give 1 end", "A method twice(b) self.use({b.call()}); give 2 end")
        self.gives("(new A).use({give 5}); give 6", 5, *rows)
        self.gives("(new A).twice({give 5}); give 6", 5, *rows)
        self.gives("give (new A).use({5}) * 10 + (new A).twice({5})", 12, *rows)

    def test_a_giving_leaves_one_call_of_a_method_that_is_called_again(self):
        rows = ("class A", "A method f(n, b) if n = 0 then b.call(); give 'x' end; "
                           "if n = 2 then self.f(1, {give 'two'}); give 'y' end; self.f(n - 1, b); give 'n' end")
        self.gives("give (new A).f(2, {give 'run'})", "two", *rows)
        self.gives("give (new A).f(3, {give 'run'})", "n", *rows)
        self.gives("(new A).f(1, {give 'run'}); give 'z'", "run", *rows)

    def test_found_by_class_and_selector(self):
        rows = ("class A", "class B < A", "A method f() give 'A' end", "A method f(a) give 'A1' end",
                "B method f() give 'B' + super.f() end")
        self.gives("give (new B).f()", "BA", *rows)
        self.gives("give (new B).f(1)", "A1", *rows)
        self.fails("(new B).f(1, 2)", "not understood", *rows)
        self.fails("{}.f()", "not understood", *rows)
        self.fails("'a'.f()", "not understood", *rows)
        self.fails("{super.f()}.call()", "not understood", *rows)

    def test_super_is_told_by_the_class_of_the_method(self):
        rows = ("class A", "class B < A", "class C < B", "A method f() give 'A' end",
                "B method f() give {super.f()}.call() + 'B' end")
        self.gives("give (new C).f()", "AB", *rows)
        self.fails("(new A).h()", "not understood", *rows, "A method h() super.f() end")

    def test_super_of_a_class_that_is_not_there(self):
        image = made("class A", "class B < A", "A method f() give 1 end", "B method b() give {super.f()} end")
        state_of(image, "b := (new B).b()")
        self.same(meaning_of(image, "give b.call()")[0], ("done", 1))
        make(image, "no class B")
        self.same(meaning_of(image, "give b.call()")[0], ("failed", "not understood"))
        self.same(state_of(image, "give b.call()"), ("failed", "not understood"))

    def test_an_instance_of_a_class_that_is_not_there(self):
        image = made("class A", "A method f() give 1 end")
        state_of(image, "a := new A")
        make(image, "no class A")
        self.same(meaning_of(image, "a.f()")[0], ("failed", "not understood"))

    def test_the_text_as_it_is_now(self):
        image = made("class A", "A method f() give 1 end")
        make(image, "A method f() give 2 end")
        self.same(meaning_of(image, "give (new A).f()")[0], ("done", 2))
        image.undo()
        self.same(meaning_of(image, "give (new A).f()")[0], ("done", 1))
        make(image, "slot A f")
        make(image, "A method g() f := 3; give f end")
        self.same(meaning_of(image, "give (new A).g()")[0], ("done", 3))


class Blocks(MeaningCase):
    def test_what_they_come_to(self):
        for text, value in (("{}", None), ("{5}", 5), ("{1; 5}", 5), ("{5; a := 1}", None), ("{a := 5}", None),
                            ("{if true then 5 end}", None), ("{while false do 5 end}", None),
                            ("{try 5 catch e then 5 end}", None), ("{keep 5 always 6 end}", None),
                            ("{5; if true then 6 end}", None), ("{{5}.call()}", 5), ("{none}", None)):
            self.gives(f"give {text}.call()", value)
        self.fails("{fail 5}.call()", 5)
        self.gives("{give 5}.call(); give 6", 5)
        self.gives("give {try fail 5 catch e then e end}.call()", None)

    def test_parameters(self):
        self.gives("give {a | a + 1}.call(2)", 3)
        self.gives("give {a, b, c, d | d * 10 + a}.call(1, 2, 3, 4)", 41)
        self.gives("give {a | }.call(1)", None)
        for text in ("{a | a}.call()", "{a | a}.call(1, 2)", "{}.call(1)", "{}.run()", "{a | a}.value(1)"):
            self.fails(text, "not understood")

    def test_places_around(self):
        self.gives("var n; n := 1; {n := n + 1}.call(); give n", 2)
        self.gives("var b; b := {x | {y | x * 10 + y}}; give b.call(1).call(2)", 12)
        self.gives("var b, c, d; b := {x | {x := x + 1; x}}; c := b.call(1); d := b.call(5); c.call(); "
                   "give c.call() * 10 + d.call()", 36)
        self.gives("var n, b; n := 1; b := {n}; n := 2; give b.call()", 2)

    def test_places_of_a_call_that_is_over(self):
        rows = ("class A", "A method f(a) var n; n := a; give {n := n + 1; n} end")
        self.gives("var b, c; b := (new A).f(1); c := (new A).f(5); b.call(); give b.call() * 10 + c.call()", 36,
                   *rows)

    def test_the_receiver(self):
        rows = ("class A s", "A method f() give {s := 5; self} end", "A method get() give s end")
        self.gives("var a, b; a := new A; b := a.f(); give b.call() = a", True, *rows)
        self.gives("var a; a := new A; a.f().call(); give a.get()", 5, *rows)

    def test_a_giving_belongs_to_the_method(self):
        self.gives("{{give 1}.call(); give 2}.call(); give 3", 1)
        self.gives("give (new A).f() + 1", 6, "class A", "A method f() {{give 5}.call()}.call(); give 9 end")

    def test_a_giving_of_a_call_that_is_over(self):
        rows = ("class A", "A method f() give {give 5} end", "A method h(b) if b = none then give {give 5} end; "
                                                            "b.call(); give 6 end",
                "A method deep() give {{give 5}} end")
        self.fails("(new A).f().call()", "given too late", *rows)
        self.gives("try (new A).f().call() catch e then give e end", "given too late", *rows)
        self.fails("(new A).h((new A).h(none))", "given too late", *rows)
        self.fails("(new A).deep().call().call()", "given too late", *rows)

    def test_the_value_ahead_of_the_giving(self):
        rows = ("class A", "A method f() give {give 1 / 0} end", "A method h(b) give {give b.call()} end")
        self.fails("(new A).f().call()", "by nothing", *rows)
        self.fails("(new A).h({n := 1; 5}).call()", "given too late", *rows)
        self.same(meaning_of(made(*rows), "(new A).h({n := 1; 5}).call()")[1].global_values(), {"n": 1})

    def test_a_giving_out_of_the_task(self):
        image = made()
        state_of(image, "b := {give 5}; c := {{give 6}.call()}; d := {7}")
        for name, outcome in (("b", ("failed", "given too late")), ("c", ("failed", "given too late")),
                              ("d", ("done", 7))):
            self.same(meaning_of(image, f"give {name}.call()")[0], outcome)
            self.same(state_of(image, f"give {name}.call()"), outcome)

    def test_calls_of_a_task_that_runs_are_over(self):
        image = begun(made(), "b := {give 5}; b.call(); give 6")
        image.advance(2)
        self.same(meaning_of(image, "b.call()")[0], ("failed", "given too late"))
        self.same(meaning_of(image, "try b.call() catch e then give e end")[0], ("done", "given too late"))
        image.advance(100)
        self.same(image.state(), ("done", 5))


class Depth(MeaningCase):
    METHOD = ("class A", "A method f(n) if n = 1 then give 'in' end; give self.f(n - 1) end",
              "A method b(n) if n = 1 then give 'in' end; give {self.b(n - 1)}.call() end")
    BLOCK = "var f; f := {n | if n = 1 then give 'in' end; f.call(n - 1)}; "

    def test_methods(self):
        self.gives("give (new A).f(11)", "in", *self.METHOD)
        self.fails("give (new A).f(12)", "too deep", *self.METHOD)

    def test_blocks(self):
        self.gives(self.BLOCK + "give f.call(11)", "in")
        self.fails(self.BLOCK + "give f.call(12)", "too deep")

    def test_methods_and_blocks(self):
        self.gives("give (new A).b(6)", "in", *self.METHOD)
        self.fails("give (new A).b(7)", "too deep", *self.METHOD)
        self.gives("give {(new A).f(10)}.call()", "in", *self.METHOD)
        self.fails("give {(new A).f(11)}.call()", "too deep", *self.METHOD)

    def test_calls_that_are_over_do_not_count(self):
        self.gives("var n; n := 0; while n < 30 do (new A).f(11); n := n + 1 end; give n", 30, *self.METHOD)
        self.gives("try (new A).f(20) catch e then end; try (new A).f(20) catch e then end; give (new A).f(11)",
                   "in", *self.METHOD)
        self.gives("try {{{fail 1}.call()}.call()}.call() catch e then end; give (new A).f(11)", "in", *self.METHOD)

    def test_not_understood_ahead_of_too_deep(self):
        rows = ("class A", "A method f(n) if n = 0 then give self.h() end; give self.f(n - 1) end",
                "A method k(n) if n = 0 then give super.k(n) end; give self.k(n - 1) end")
        self.fails("(new A).f(10)", "not understood", *rows)
        self.fails("(new A).k(10)", "not understood", *rows)
        self.fails("(new A).f(10)", "too deep", *rows, "A method h() give 1 end")

    def test_super_too_deep(self):
        rows = ("class A", "class B < A", "A method f(n) give 'A' end",
                "B method f(n) if n = 0 then give super.f(n) end; give self.f(n - 1) end")
        self.gives("give (new B).f(9)", "A", *rows)
        self.fails("give (new B).f(10)", "too deep", *rows)

    def test_the_arguments_are_carried_out_ahead(self):
        rows = ("class A", "A method f(n) g := n; self.f(n + 1) end")
        self.same(self.fails("(new A).f(1)", "too deep", *rows).global_values(), {"g": 11})
        rows = ("class A", "A method f(n) self.f({g := g + n; n + 1}.call()) end")
        # The block is called in the 11th call of the method, but there is no room for it in the 12th.
        self.same(self.fails("g := 0; (new A).f(1)", "too deep", *rows).global_values(), {"g": 55})

    def test_the_deepest_texts(self):
        # Twelve calls, each of them made as deep in a text as can be.
        rows = ("class A", "A method f(n) if n = 1 then give 0 end; "
                           "give - - - - - - - -self.f(n - 1) end")
        self.gives("give (new A).f(11)", 0, *rows)
        self.fails("give (new A).f(12)", "too deep", *rows)


class Memory(MeaningCase):
    def test_there_is_no_bound(self):
        body = "var n; n := 0; g := none; while n < 70 do g := (new A).set(g); n := n + 1 end; give n"
        rows = ("class A x", "A method set(a) x := a; give self end")
        found, after = meaning_of(made(*rows), body)
        self.same(found, ("done", 70))
        self.same(after.objects(), list(range(1, 71)))
        self.same(after.look(70), ("instance", "A", (("x", ("object", 69)),)))
        self.same(state_of(made(*rows), body), ("failed", "memory"))

    def test_an_image_that_is_full(self):
        image = made()
        fill(image, 60)
        self.same(meaning_of(image, "give {new Thing}.call()")[0], ("done", ("object", 62)))
        self.same(state_of(image, "new Thing"), ("failed", "memory"))

    def test_garbage_stays(self):
        after = meaning_of(made(), "var n; n := 0; while n < 100 do new Thing; {}; n := n + 1 end")[1]
        self.same(after.objects(), list(range(1, 201)))


if __name__ == "__main__":
    unittest.main()
