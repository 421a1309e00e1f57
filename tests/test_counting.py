"""Point 48: how many carryings out a body needs, and the limit that the caller sets."""

import unittest

from livestead.files import save
from livestead.images import Image
from livestead.meaning import mean
from tests.living import LivingCase, made, state_of
from tests.meant import meaning_of, text_of

ROWS = ("class A", "class B < A", "A method f(a) give a end", "B method f(a) give super.f(a) end",
        "A method deep(n) if n = 0 then give 0 end; give self.deep(n - 1) end")


class Counting(LivingCase):
    def needs(self, body, many, outcome=("done", None)):
        """A limit of as many as are needed is enough, one less is not."""
        image = made(*ROWS)
        told = save(image)
        found, after = meaning_of(image, body, many)
        self.same(found, outcome, body)
        self.assertIsInstance(after, Image)
        self.same(meaning_of(image, body, many + 1)[0], outcome, body)
        for limit in range(many):
            self.same(meaning_of(image, body, limit), (("long",), None), (body, limit))
        self.assertEqual(save(image), told)

    def test_nothing(self):
        self.needs("", 0)
        self.needs("var a;", 0)

    def test_an_expression_by_itself_counts_two(self):
        for text in ("5", "'t'", "none", "true", "self", "new A", "{}", "{1; 2; 3}", "((5))"):
            self.needs(text, 2)
        self.needs("1; 2; 3", 6)

    def test_expressions(self):
        self.needs("give 5", 2, ("done", 5))
        self.needs("var a; give a", 2)
        self.needs("give -5", 3, ("done", -5))
        self.needs("give not true", 3, ("done", False))
        self.needs("give 1 + 2", 4, ("done", 3))
        self.needs("give 1 + 2 * 3", 6, ("done", 7))
        self.needs("give (1 + 2) * 3", 6, ("done", 9))
        self.needs("give 1 = 2", 4, ("done", False))

    def test_what_is_not_carried_out_does_not_count(self):
        self.needs("give true and false", 4, ("done", False))
        self.needs("give false and true", 3, ("done", False))
        self.needs("give false or true", 4, ("done", True))
        self.needs("give true or 1 / 0 = 2", 3, ("done", True))
        self.needs("give 5; 1; 2", 2, ("done", 5))
        self.needs("1 / 0; 2", 4, ("failed", "by nothing"))
        self.needs("none.f(1)", 4, ("failed", "not understood"))
        self.needs("-none + 1", 4, ("failed", "wrong kind"))

    def test_set_give_and_fail(self):
        self.needs("var a; a := 1", 2)
        self.needs("a := 1 + 2", 4)
        self.needs("fail 5", 2, ("failed", 5))

    def test_if(self):
        self.needs("if true then 1 else 2; 3 end", 4)
        self.needs("if false then 1 else 2; 3 end", 6)
        self.needs("if true then end", 2)
        self.needs("if false then 1 end", 2)
        self.needs("if 5 then 1 end", 2, ("failed", "not a truth"))

    def test_while(self):
        self.needs("while false do 1 end", 2)
        # Two for the first statement, one for the loop, four times three, three times four.
        self.needs("var n; n := 0; while n < 3 do n := n + 1 end", 27)

    def test_try(self):
        self.needs("try 1 catch e then 2 end", 3)
        self.needs("try fail 1 catch e then 2 end", 5)
        self.needs("try catch e then 2 end", 1)
        self.needs("try fail 1 catch e then end", 3)

    def test_keep(self):
        self.needs("keep 1 always 2 end", 5)
        self.needs("keep fail 1 always 2 end", 5, ("failed", 1))
        self.needs("keep give 1 always 2 end; 3", 5, ("done", 1))
        self.needs("keep always end", 1)
        self.needs("keep give 1 always fail 2; 3 end", 5, ("failed", 2))

    def test_calls(self):
        self.needs("give {}.call()", 3)
        self.needs("give {1; 2}.call()", 7, ("done", 2))
        self.needs("give {a | a}.call(5)", 6, ("done", 5))
        self.needs("give (new A).f(5)", 6, ("done", 5))
        self.needs("give (new B).f(5)", 9, ("done", 5))
        self.needs("super.f(5)", 3, ("failed", "not understood"))
        # Each call but the last: four for the if, three for give, send and self, three for the argument.
        self.needs("give (new A).deep(3)", 4 + 3 * 10 + 6, ("done", 0))

    def test_no_end(self):
        for body in ("while true do end", "while true do try fail 1 catch e then end end",
                     "while true do keep 1 always 2 end end", "keep while true do 1 end always give 2 end",
                     "var f; f := {try f.call(); f.call() catch e then end}; while true do f.call() end"):
            for limit in (0, 1, 2, 100, 5000):
                self.same(meaning_of(made(*ROWS), body, limit), (("long",), None))

    def test_neither_try_nor_keep_stops_it(self):
        self.needs("try 1; 2; 3 catch e then give 4 end", 7)
        self.needs("keep 1; 2; 3 always give 4 end", 9, ("done", 4))
        self.needs("try keep {fail 1}.call() always 2 end catch e then 3 end", 11)

    def test_each_meaning_counts_from_the_start(self):
        image = made(*ROWS)
        for _ in range(3):
            self.same(meaning_of(image, "give 5", 2)[0], ("done", 5))
            self.same(meaning_of(image, "give 5", 1)[0], ("long",))

    def test_nothing_is_left_of_what_was_too_long(self):
        image = made(*ROWS)
        state_of(image, "a := new A")
        told = save(image)
        for limit in range(12):
            self.assertIsNone(mean(image, text_of("a := 5; new A; a := {6}; b := a; a.call()"), limit)[1])
        self.assertEqual(save(image), told)


if __name__ == "__main__":
    unittest.main()
