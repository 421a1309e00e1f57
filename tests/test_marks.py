"""Point 26: try and keep, failures and givings on their way through marks, notes and frames."""

import unittest

from tests.living import LivingCase, begun, made, stepped


class MarksCase(LivingCase):
    """What is added to the global name `g` tells the order in which parts are carried out."""

    def logs(self, body, log, state, *rows):
        """What a body comes to, and what it adds to `g` on the way; in all portions alike."""
        for optimized in (False, True):
            for portion in (1, 3, 1000):
                image = made(*rows)
                image.put("g", "")
                stepped(begun(image, body, optimized), portion)
                self.same(image.state(), state, body)
                self.same(image.global_values()["g"], log, body)


class Try(MarksCase):
    def test_a_body_that_is_well(self):
        self.logs("try g := g + 'b' catch e then g := g + 'h' end; g := g + 'n'", "bn", ("done", None))

    def test_a_failure(self):
        self.logs("try g := g + 'b'; fail 5; g := g + 'x' catch e then g := g + 'h' end; give e", "bh",
                  ("done", 5))

    def test_failures_of_all_kinds(self):
        for value, told in (("5", 5), ("'t'", "t"), ("none", None), ("true", True), ("false", False)):
            self.logs(f"var e; e := 1; try fail {value} catch e then g := 'h' end; give e", "h",
                      ("done", told))

    def test_the_name_is_a_place_a_slot_or_a_global_name(self):
        self.logs("try fail 5 catch e then end; give e", "", ("done", 5))
        self.logs("var e; try fail 5 catch e then end; give e", "", ("done", 5))
        self.logs("give {e | try fail 5 catch e then end; e}.call(1)", "", ("done", 5))
        self.logs("give (new A).f()", "", ("done", 5), "class A s",
                  "A method f() try fail 5 catch s then end; give s end")

    def test_a_slot_that_is_not_there(self):
        image = made("class A s", "A method f() give {try fail 5 catch s then g := 1 end; g := 2} end")
        stepped(begun(image, "b := (new A).f()"), 100)
        image.make(("no slot", "A", "s"))
        stepped(begun(image, "b.call()"), 100)
        self.same(image.state(), ("failed", "no slot"))
        stepped(begun(image, "try b.call() catch e then give e end"), 100)
        self.same(image.state(), ("done", "no slot"))
        self.assertNotIn("g", image.global_values())

    def test_a_failure_in_the_handler(self):
        self.logs("try fail 1 catch e then g := g + 'h'; fail 2; g := g + 'x' end", "h", ("failed", 2))
        self.logs("try try fail 1 catch e then fail 2 end catch f then g := g + 'o' end; give e * 10 + f",
                  "o", ("done", 12))

    def test_the_innermost_catches(self):
        self.logs("try try fail 1 catch e then g := g + 'i' end; g := g + 'b' catch e then g := g + 'o' end",
                  "ib", ("done", None))

    def test_a_try_that_is_over_catches_nothing(self):
        self.logs("try g := g + 'b' catch e then g := g + 'h' end; fail 7", "b", ("failed", 7))
        self.logs("try fail 1 catch e then g := g + 'h' end; fail 7", "h", ("failed", 7))

    def test_out_of_calls(self):
        rows = ("class A", "A method f(n) if n = 0 then fail 'deep' end; self.f(n - 1); g := 'x' end")
        self.logs("try (new A).f(5) catch e then g := g + e end", "deep", ("done", None), *rows)
        self.logs("try {{fail 'in'}.call()}.call() catch e then g := g + e end", "in", ("done", None))

    def test_a_try_in_a_frame_between(self):
        rows = ("class A", "A method f() try self.h() catch e then g := g + 'f' end; give 1 end",
                "A method h() fail 0 end")
        self.logs("try give (new A).f() catch e then g := g + 'r' end", "f", ("done", 1), *rows)

    def test_in_a_loop(self):
        self.logs("var n; n := 0; while n < 3 do n := n + 1; try if n = 2 then fail n end; g := g + 'w' "
                  "catch e then g := g + 'c' end end; give n", "wcw", ("done", 3))

    def test_a_giving_is_not_caught(self):
        self.logs("try give 5 catch e then g := g + 'h' end; give 6", "", ("done", 5))
        self.logs("try {give 5}.call() catch e then g := g + 'h' end; give 6", "", ("done", 5))


class Keep(MarksCase):
    def test_each_outcome_of_the_body(self):
        self.logs("keep g := g + 'b' always g := g + 'l' end; give 9", "bl", ("done", 9))
        self.logs("keep g := g + 'b'; fail 1 always g := g + 'l' end; give 9", "bl", ("failed", 1))
        self.logs("keep g := g + 'b'; give 1 always g := g + 'l' end; give 9", "bl", ("done", 1))

    def test_each_outcome_of_the_last_part(self):
        for body, log in (("g := g + 'b'", "bl"), ("fail 1", "l"), ("give 1", "l")):
            self.logs(f"keep {body} always g := g + 'l'; fail 2; g := 'x' end; give 9", log, ("failed", 2))
            self.logs(f"keep {body} always g := g + 'l'; give 2; g := 'x' end; give 9", log, ("done", 2))

    def test_the_last_part_is_carried_out_once(self):
        self.logs("try keep g := g + 'b' always g := g + 'l'; fail 3 end catch e then g := g + 'h' end",
                  "blh", ("done", None))

    def test_one_in_the_other(self):
        self.logs("keep keep fail 1 always g := g + 'i' end always g := g + 'o' end", "io", ("failed", 1))
        self.logs("keep keep give 1 always g := g + 'i' end always g := g + 'o' end", "io", ("done", 1))
        self.logs("keep g := g + 'b' always keep g := g + 'c' always g := g + 'd' end end; give 1", "bcd",
                  ("done", 1))

    def test_keep_in_the_last_part(self):
        self.logs("keep fail 1 always keep fail 2 always g := g + 'i' end; g := 'x' end", "i", ("failed", 2))
        self.logs("keep fail 1 always keep g := g + 'b' always g := g + 'i' end end", "bi", ("failed", 1))
        self.logs("keep give 1 always keep give 2 always g := g + 'i' end end", "i", ("done", 2))
        self.logs("keep give 1 always keep g := g + 'b' always g := g + 'i' end end; give 3", "bi",
                  ("done", 1))

    def test_try_in_the_last_part(self):
        self.logs("keep fail 1 always try fail 2 catch e then g := g + 'h' end; g := g + 'l' end", "hl",
                  ("failed", 1))
        self.logs("keep give 1 always try fail 2 catch e then g := g + 'h' end end; give 3", "h", ("done", 1))

    def test_keep_in_a_handler(self):
        self.logs("try fail 1 catch e then keep fail 2 always g := g + 'l' end end", "l", ("failed", 2))
        self.logs("try fail 1 catch e then keep give e always g := g + 'l' end end", "l", ("done", 1))

    def test_try_within_keep(self):
        self.logs("keep try fail 1 catch e then g := g + 'h' end; g := g + 'b' always g := g + 'l' end; give 3",
                  "hbl", ("done", 3))
        self.logs("keep try give 1 catch e then g := g + 'h' end always g := g + 'l' end; give 3", "l",
                  ("done", 1))

    def test_keep_within_try(self):
        self.logs("try keep fail 1 always g := g + 'l' end; g := 'x' catch e then g := g + 'h' end; give e",
                  "lh", ("done", 1))
        self.logs("try keep give 1 always g := g + 'l' end catch e then g := g + 'h' end; give 3", "l",
                  ("done", 1))
        self.logs("try keep give 1 always fail 2 end catch e then g := g + 'h' end; give e", "h", ("done", 2))

    def test_in_all_frames_on_the_way(self):
        rows = ("class A", "A method f(n, b) keep if n = 0 then b.call() else self.f(n - 1, b) end "
                           "always g := g + 'l' end; g := 'x' end",
                "A method out() self.f(3, {give 7}); give 8 end")
        self.logs("give (new A).out()", "llll", ("done", 7), *rows)
        self.logs("(new A).f(3, {fail 7})", "llll", ("failed", 7), *rows)

    def test_a_giving_is_stopped_on_its_way(self):
        rows = ("class A", "A method f(b) keep b.call() always give 1 end end",
                "A method h() g := g + 'a'; self.f({give 2}); g := g + 'b'; give 3 end")
        self.logs("give (new A).h()", "ab", ("done", 3), *rows)
        rows = ("class A", "A method f(b) keep b.call() always fail 1 end end",
                "A method h() try self.f({give 2}) catch e then g := g + 'c' end; give 3 end")
        self.logs("give (new A).h()", "c", ("done", 3), *rows)

    def test_a_failure_is_stopped_on_its_way(self):
        rows = ("class A", "A method f() keep fail 1 always give 2 end end")
        self.logs("give (new A).f() + 1", "", ("done", 3), *rows)

    def test_a_giving_in_a_keep_of_the_method_that_is_left(self):
        self.logs("keep {give 1}.call(); g := 'x' always g := g + 'l' end; give 2", "l", ("done", 1))
        self.logs("keep {keep give 1 always g := g + 'i' end}.call() always g := g + 'o' end", "io",
                  ("done", 1))

    def test_the_last_part_of_a_loop(self):
        self.logs("var n; n := 0; while n < 3 do keep n := n + 1; g := g + 'b' always g := g + 'l' end end",
                  "blblbl", ("done", None))

    def test_a_failure_in_the_last_part_of_a_giving_in_a_loop(self):
        self.logs("var n; n := 0; while n < 3 do try n := n + 1; keep give n always if n < 3 then fail 'x' end "
                  "end catch e then g := g + e end end; give 9", "xx", ("done", 3))

    def test_too_late_is_a_failure_like_others(self):
        rows = ("class A", "A method f() give {keep give 1 always g := g + 'l' end} end")
        self.logs("try (new A).f().call() catch e then g := g + e end", "lgiven too late", ("done", None),
                  *rows)

    def test_calls_in_the_last_part(self):
        rows = ("class A", "A method f() g := g + 'f'; give 4 end")
        self.logs("keep fail 1 always (new A).f(); {g := g + 'b'}.call() end", "fb", ("failed", 1), *rows)
        self.logs("keep give 1 always (new A).f(); {give 2}.call() end", "f", ("done", 2), *rows)

    def test_failures_of_the_machine(self):
        self.logs("keep none.f() always g := g + 'l' end", "l", ("failed", "not understood"))
        self.logs("keep if 1 then end always g := g + 'l' end", "l", ("failed", "not a truth"))


class Unless(MarksCase):
    def test_within_try_and_keep(self):
        for truth, log in (("true", "bl"), ("false", "cl")):
            self.logs(f"keep if {truth} then g := g + 'b' else g := g + 'c' end always g := g + 'l' end", log,
                      ("done", None))
            self.logs(f"try if {truth} then g := g + 'b' else g := g + 'c' end; g := g + 'l' "
                      "catch e then g := 'x' end", log, ("done", None))
            self.logs(f"keep while {truth} do g := g + 'b'; give 1 end; g := g + 'c' always g := g + 'l' end",
                      log, ("done", 1 if truth == "true" else None))

    def test_true_and_false_out_of_the_way(self):
        self.logs("try if 1 = 1 and not (2 < 1) then fail 'f' end catch e then g := g + e end", "f",
                  ("done", None))


if __name__ == "__main__":
    unittest.main()
