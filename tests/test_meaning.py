"""Points 40 to 43 and 47: what expressions and statements mean, and the order of their parts."""

import inspect
import unittest

from livestead.errors import NameTwice, SourceError
from livestead.images import Image
from livestead.meaning import mean
from tests.living import PLENTY, begun, made, make, state_of
from tests.meant import FAILURE, GIVING, VALUE, MeaningCase, meaning_of

WELL = ("done", None)
KIND, TRUTH, MISSING = ("failed", "wrong kind"), ("failed", "not a truth"), ("failed", "not understood")
# Each place of a part in an expression or a statement; what is carried out ahead of it; and what is
# carried out, and comes out, if the part comes to the value 'v'.
PLACES = (
    ("-({})", "", "v", KIND), ("not ({})", "", "v", TRUTH), ("({}) + 1", "", "v", KIND),
    ("(new A).n('l') + ({})", "l", "lv", WELL), ("({}) = 1", "", "v", WELL), ("1 < ({})", "", "v", KIND),
    ("({}) and true", "", "v", TRUTH), ("true and ({})", "", "v", TRUTH), ("({}) or true", "", "v", TRUTH),
    ("false or ({})", "", "v", TRUTH), ("({}).f(1)", "", "v", MISSING), ("(new A).f({})", "", "vf", WELL),
    ("(new A).f((new A).n('a'), {})", "a", "avF", WELL), ("(new A).f({}, (new A).n('x'))", "", "vxF", WELL),
    ("super.f({})", "", "v", MISSING), ("super.f((new A).n('a'), {})", "a", "av", MISSING),
    ("{{a | g := g + 'x'}}.call({})", "", "vx", WELL), ("h := {}", "", "v", WELL),
    ("give {}", "", "v", ("done", "v")), ("fail {}", "", "v", ("failed", "v")), ("{}", "", "v", WELL),
    ("while {} do end", "", "v", TRUTH), ("if {} then end", "", "v", TRUTH),
    ("if true then {} else g := 'x' end", "", "v", WELL), ("if false then g := 'x' else {} end", "", "v", WELL),
    ("while g = '' do {} end", "", "v", WELL), ("(new A).n('a'); {}", "a", "av", WELL),
    ("{{{}}}.call()", "", "v", WELL), ("{{{}; 1}}.call()", "", "v", WELL), ("keep {} always end", "", "v", WELL),
    ("keep always {} end", "", "v", WELL), ("try {} catch e then end", None, "v", WELL),
    ("try 1 catch e then end; {}", "", "v", WELL), ("try fail 1 catch e then {} end", "", "v", WELL),
)


class Plain(MeaningCase):
    def test_plain_values(self):
        for text, value in (("5", 5), ("0", 0), ("1000000000", 1000000000), ("'t'", "t"), ("''", ""),
                            ("none", None), ("true", True), ("false", False)):
            self.gives(f"give {text}", value)

    def test_self(self):
        self.gives("give self", None)
        self.gives("var a; a := new A; give a.me() = a", True, "class A", "A method me() give self end")
        self.gives("give {self}.call()", None)

    def test_places(self):
        self.gives("var a; give a", None)
        self.gives("var a, b; a := 1; b := a + 1; give a + b", 3)
        self.gives("var a; a := 1; {a | a := 5}.call(2); give a", 1)
        self.gives("var a; a := 1; {b | a := b}.call(2); give a", 2)

    def test_names_like_the_kinds_of_trees(self):
        self.gives("give {name, block, set | name + block.call(set)}.call(1, {send | send * 10}, 2)", 21)
        self.gives("var name, set, plain; name := 1; set := 2; plain := name + set; give {plain}.call()", 3)
        self.gives("var block; try fail 5 catch block then end; give {block | {block}}.call(block).call()", 5)

    def test_global_names(self):
        self.fails("give a", "no global")
        self.fails("a", "no global")
        self.gives("give a", 5, named=(("a", 5),))
        self.gives("give a", None, named=(("a", None),))
        self.gives("a := 1; give a", 1)
        self.gives("give {a}.call()", 5, named=(("a", 5),))

    def test_slots(self):
        rows = ("class A s", "class B < A t", "A method get() give s end", "A method put(a) s := a end",
                "B method both() s := 1; t := 2; give s * 10 + t end")
        self.gives("give (new A).get()", None, *rows)
        self.gives("var a; a := new B; a.put(5); give a.get()", 5, *rows)
        self.gives("give (new B).both()", 12, *rows)

    def test_a_slot_that_is_not_there(self):
        for body, outcome in (("give b.call()", ("failed", "no slot")), ("c.call(1)", ("failed", "no slot")),
                              ("try c.call(1) catch e then give e end", ("done", "no slot"))):
            for row in ("no slot A s", "no class A"):
                image = made("class A s", "A method get() give {s} end", "A method put() give {a | s := a} end")
                state_of(image, "a := new A; b := a.get(); c := a.put()")
                make(image, row)
                found, after = meaning_of(image, body)
                self.same(found, outcome)
                self.same(after.look(1), ("instance", "A", ()))
                self.same(state_of(image, body), outcome)

    def test_new(self):
        after = self.gives("give new A", ("object", 1), "class A s")
        self.same(after.look(1), ("instance", "A", ()))
        self.gives("give new Thing", ("object", 1))
        self.fails("new B", "no class", "class A")
        self.fails("new A", "no class", "class A", "no class A")

    def test_blocks_are_objects(self):
        after = self.gives("give {a, b | g := 1}", ("object", 1))
        self.same(after.look(1), ("block", 2))
        self.same(after.global_values(), {})
        self.gives("var a; a := {1}; give a = a", True)
        self.gives("give {1} = {1}", False)


class Signs(MeaningCase):
    def test_values(self):
        for text, value in (("1 + 2", 3), ("1 - 2", -1), ("3 * 4", 12), ("-7 / 2", -4), ("7 / 2", 3),
                            ("1 < 2", True), ("2 <= 1", False), ("'a' + 'b'", "ab"), ("'a' < 'b'", True),
                            ("'a' <= 'a'", True), ("1 = 1", True), ("1 = true", False), ("0 = false", False),
                            ("none = none", True), ("'1' = 1", False), ("-5", -5), ("-(-5)", 5),
                            ("not true", False), ("not false", True)):
            self.gives(f"give {text}", value)

    def test_failures(self):
        for text, value in (("1 + 'a'", "wrong kind"), ("true + 1", "wrong kind"), ("'a' - 'b'", "wrong kind"),
                            ("none < none", "wrong kind"), ("'a' <= 1", "wrong kind"), ("{} * 1", "wrong kind"),
                            ("1 / 0", "by nothing"), ("'a' / 0", "wrong kind"), ("0 / 0", "by nothing"),
                            ("1000000000 + 1", "too large"), ("-1000000000 - 1", "too large"),
                            ("1000000000 * 2", "too large"), ("-'a'", "wrong kind"), ("-true", "wrong kind"),
                            ("-none", "wrong kind"), ("not 1", "not a truth"), ("not none", "not a truth"),
                            ("not 'true'", "not a truth")):
            self.fails(f"give {text}", value)

    def test_texts_that_are_too_long(self):
        named = (("a", "x" * 100), ("b", "x" * 101))
        self.gives("give a + a", "x" * 200, named=named)
        self.fails("give a + b", "too large", named=named)


class Truths(MeaningCase):
    VALUES = (("true", True), ("false", False), ("1", 1), ("0", 0), ("'true'", "true"), ("none", None),
              ("new Thing", ()), ("{true}", ()))

    def wanted(self, word, left, right):
        """The outcome of `and` or `or` between two values, word by word as point 42 tells it."""
        first = word == "or"
        if left is first:
            return ("done", first)
        if left is (not first) and (right is True or right is False):
            return ("done", right)
        return ("failed", "not a truth")

    def test_each_kind_of_value_on_each_side(self):
        for word in ("and", "or"):
            for left_text, left in self.VALUES:
                for right_text, right in self.VALUES:
                    body = f"give {left_text} {word} {right_text}"
                    self.means(body, self.wanted(word, left, right))

    def test_the_right_side_is_carried_out_if_it_is_needed(self):
        for left, word, log, value in (("false", "and", "", False), ("true", "or", "", True),
                                       ("true", "and", "r", True), ("false", "or", "r", True)):
            self.logs(f"give {left} {word} (new A).n('r') = 'r'", log, ("done", value))
        for left in ("1", "none"):
            for word in ("and", "or"):
                self.logs(f"give {left} {word} (new A).n('r') = 'r'", "", ("failed", "not a truth"))

    def test_failures_and_givings_on_the_right_side(self):
        for left, word in (("true", "and"), ("false", "or")):
            self.fails(f"h := {left} {word} {FAILURE}", 7)
            self.gives(f"h := {left} {word} {GIVING}", 8)
        for left, word, value in (("false", "and", False), ("true", "or", True)):
            self.gives(f"give {left} {word} {FAILURE}", value)
            self.gives(f"give {left} {word} {GIVING}", value)

    def test_if_and_while_ask_for_truths(self):
        for text, value in self.VALUES:
            if value is True or value is False:
                self.gives(f"if {text} then give 1 else give 2 end", 1 if value else 2)
                self.gives(f"while {text} do give 1 end; give 2", 1 if value else 2)
            else:
                self.fails(f"if {text} then give 1 else give 2 end", "not a truth")
                self.fails(f"while {text} do give 1 end; give 2", "not a truth")

    def test_while_asks_each_time(self):
        self.fails("var n; n := true; while n do g := n; n := 5 end", "not a truth")
        self.logs("var n; n := 0; while (new A).f(n < 2) do n := n + 1; (new A).n('b') end", "fbfbf",
                  ("done", None))


class Order(MeaningCase):
    def test_both_sides_ahead_of_the_operation(self):
        for sign in ("+", "<", "="):
            self.logs(f"(new A).n('l') {sign} (new A).n('r')", "lr", ("done", None))
        self.logs("(new A).n('l') - (new A).n('r')", "lr", ("failed", "wrong kind"))
        self.logs("none + (new A).n('r')", "r", ("failed", "wrong kind"))

    def test_receiver_and_arguments_ahead_of_the_call(self):
        self.logs("(new A).f((new A).n('a'), (new A).n('b'))", "abF", ("done", None))
        self.logs("(new A).n('r').f((new A).n('a'))", "ra", ("failed", "not understood"))
        self.logs("none.f((new A).n('a'), (new A).n('b'))", "ab", ("failed", "not understood"))
        self.logs("super.f((new A).n('a'), (new A).n('b'))", "ab", ("failed", "not understood"))
        self.logs("{a | g := g + 'c'}.call((new A).n('a'))", "ac", ("done", None))
        self.logs("{a | g := g + 'c'}.call((new A).n('a'), (new A).n('b'))", "ab",
                  ("failed", "not understood"))

    def test_the_value_ahead_of_the_putting(self):
        self.logs("g := (new A).n('a') + 'x'", "ax", ("done", None))
        self.gives("var a; a := 1; a := a + a; give a", 2)

    def test_one_statement_after_the_other(self):
        self.logs("(new A).n('a'); h := (new A).n('b'); if (new A).n('c') = 'c' then (new A).n('d') end; "
                  "(new A).n('e')", "abcde", ("done", None))

    def test_within_one_another(self):
        self.logs("(new A).f((new A).n('a') + (new A).n('b'), -(new A).n('c'))", "abc",
                  ("failed", "wrong kind"))


class Outcomes(MeaningCase):
    """Each kind of expression and statement with a part that fails or gives: so does the whole."""

    def test_failures(self):
        for place, log, _, _ in PLACES:
            if log is not None:
                self.logs(f"{place.format(FAILURE)}; g := 'y'", log, ("failed", 7))

    def test_givings(self):
        for place, log, _, _ in PLACES:
            self.logs(f"{place.format(GIVING)}; g := 'y'", log or "", ("done", 8))

    def test_values(self):
        for place, _, log, outcome in PLACES:
            self.logs(place.format(VALUE), log, outcome)

    def test_give_and_fail(self):
        self.gives("give 5; give 6", 5)
        self.fails("fail 5; fail 6", 5)
        for text, value in (("none", None), ("true", True), ("'a'", "a"), ("new A", ("object", 1))):
            self.gives(f"give {text}", value, "class A")
            self.fails(f"fail {text}", value, "class A")


class Tasks(MeaningCase):
    def test_a_method_of_thing_without_parameters(self):
        self.gives("", None)
        self.gives("5", None)
        self.gives("var a, b; give a = b", True)
        self.fails("super.f()", "not understood")
        self.fails("self.f()", "not understood")
        self.fails("s", "no global", "class A s")

    def test_the_name_of_the_method_is_free(self):
        self.same(mean(Image(), "method x() give 2 end", 10)[0], ("done", 2))
        self.same(mean(text="  method if1 ( )give(3)end", limit=10, image=Image())[0], ("done", 3))
        self.assertEqual(str(inspect.signature(mean)), "(image, text, limit)")

    def test_errors_of_the_text(self):
        image = Image()
        for text, at in (("method f() !", 11), ("method f()", 10), ("", 0), ("method f(a) 1 2 end", 14),
                         ("f() end", 0), ("  method f(a) end", 0), ("method f(a, b) var c; end", 0)):
            with self.assertRaises(SourceError, msg=text) as caught:
                mean(image, text, PLENTY)
            self.same(caught.exception.at, at, text)
        with self.assertRaises(NameTwice) as caught:
            mean(image, "method f(a) var b, a; end", PLENTY)
        self.same(caught.exception.name, "a")

    def test_errors_of_the_text_while_a_task_runs(self):
        image = begun(Image(), "give 1")
        self.assertRaises(SourceError, mean, image, "method f(a) end", 0)
        self.assertRaises(NameTwice, mean, image, "method f() var b, b; end", 0)
        self.same(meaning_of(image, "give 2")[0], ("done", 2))
        self.same(image.advance(10), 2)

    def test_errors_of_the_text_ahead_of_the_limit(self):
        self.assertRaises(SourceError, mean, Image(), "method f(a) end", 0)
        self.assertRaises(SourceError, mean, Image(), "method f() give end", 0)


if __name__ == "__main__":
    unittest.main()
