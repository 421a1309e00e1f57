"""Points 16, 23 and 25: tasks, frames and each instruction, step by step."""

import unittest

from livestead.errors import NameTwice, SourceError, TaskError
from livestead.images import Image
from tests.living import LivingCase, begun, made, state_of


class Starting(LivingCase):
    def test_the_example_of_the_document(self):
        image = Image()
        self.same(image.start("method run() give 2 * 3 end"), None)
        self.same(image.state(), ("running",))
        self.same(image.depth(), 1)
        self.same(image.advance(100), 4)
        self.same(image.state(), ("done", 6))
        self.same(image.depth(), 0)

    def test_the_example_optimized(self):
        image = Image()
        image.start("method run() give 2 * 3 end", optimized=True)
        self.same(image.advance(100), 2)
        self.same(image.state(), ("done", 6))

    def test_variables(self):
        self.done("var a, b; a := 1; b := a; give b", 1)

    def test_errors_of_the_text(self):
        image = Image()
        for text, at in (("method f() !", 11), ("method f()", 10), ("", 0), ("method f(a) 1 2 end", 14),
                         ("f() end", 0)):
            with self.assertRaises(SourceError) as caught:
                image.start(text)
            self.same(caught.exception.at, at)
        with self.assertRaises(NameTwice) as caught:
            image.start("method f(a) var a; end")
        self.same(caught.exception.name, "a")
        self.same(image.state(), ("none",))

    def test_parameters(self):
        with self.assertRaises(SourceError) as caught:
            Image().start("   method f(a) give a end")
        self.same(caught.exception.at, 0)

    def test_a_task_while_one_is_running(self):
        image = begun(Image(), "a := 1")
        self.assertRaises(TaskError, image.start, "method f() end")
        image.advance(1)
        self.assertRaises(TaskError, image.start, "method f() end")
        image.advance(2)
        self.same(image.state(), ("running",))
        image.advance(1)
        self.same(image.state(), ("done", None))
        image.start("method f() end")
        self.same(image.state(), ("running",))

    def test_which_error_comes_first(self):
        image = begun(Image(), "a := 1")
        self.assertRaises(SourceError, image.start, "method f( end")
        self.assertRaises(NameTwice, image.start, "method f(a, a) end")
        self.assertRaises(SourceError, image.start, "method f(a) end")
        self.assertRaises(TaskError, image.start, "method f() end")
        self.same(image.advance(10), 4)
        self.same(image.global_values(), {"a": 1})

    def test_a_new_task_behind_one_that_has_ended(self):
        image = Image()
        self.same(state_of(image, "a := 1; fail 'x'"), ("failed", "x"))
        self.same(state_of(image, "give a"), ("done", 1))
        self.same(state_of(image, ""), ("done", None))

    def test_an_error_leaves_the_ended_task(self):
        image = Image()
        state_of(image, "give 5")
        self.assertRaises(SourceError, image.start, "method f(a) end")
        self.same(image.state(), ("done", 5))

    def test_a_method_of_thing_with_none_as_receiver(self):
        self.done("give self", None)
        self.failed("super.f()", "not understood")
        self.failed("self.f()", "not understood")


class Steps(LivingCase):
    def goes(self, body, many, *rows):
        """How many steps a body needs, each of them an instruction of the document."""
        image = begun(made(*rows), body)
        steps = 0
        while image.advance(1):
            steps += 1
        self.same(steps, many, body)

    def test_each_instruction_is_a_step(self):
        self.goes("", 2)
        self.goes("5", 4)
        self.goes("-5", 5)
        self.goes("not true", 5)
        self.goes("1 + 2", 6)
        self.goes("a := 1", 4)
        self.goes("a := 1; a", 6)
        self.goes("new Thing", 4)
        self.goes("{}", 4)
        self.goes("give 5", 2)
        self.goes("fail 5", 2)
        self.goes("self", 4)
        self.goes("var a; a", 4)

    def test_jumps(self):
        self.goes("if true then 1 end", 6)
        self.goes("if false then 1 end", 4)
        self.goes("if true then 1 else 2 end", 7)
        self.goes("if false then 1 else 2 end", 6)
        self.goes("while false do 1 end", 4)
        self.goes("true and true", 9)
        self.goes("false and true", 6)
        self.goes("true or true", 7)

    def test_calls(self):
        self.goes("{}.call()", 7)
        self.goes("{5}.call()", 7)
        self.goes("(new A).f(1)", 8, "class A", "A method f(a) give a end")

    def test_marks(self):
        self.goes("try catch a then end", 5)
        self.goes("try fail 1 catch a then end", 6)
        self.goes("try 1 catch a then end", 7)
        self.goes("keep always end", 5)
        self.goes("keep fail 1 always end", 4)
        self.goes("keep give 1 always end", 4)
        self.goes("keep 1 always 2 end", 9)

    def test_a_step_that_fails_is_one(self):
        self.goes("a", 1)
        self.goes("{{fail 1}.call()}.call()", 6)
        self.goes("{{give 1}.call()}.call()", 6)
        self.goes("try {{fail 1}.call()}.call() catch a then end", 10)

    def test_depth(self):
        image = begun(made("class A", "A method f() self.g(); give 1 end", "A method g() give {2}.call() end"),
                      "(new A).f()")
        depths = [image.depth()]
        while image.advance(1):
            depths.append(image.depth())
        self.same(depths, [1, 1, 2, 2, 3, 3, 4, 4, 3, 2, 2, 2, 1, 1, 1, 0])

    def test_globals_step_by_step(self):
        image = begun(Image(), "a := 1; b := 2")
        told = []
        while image.advance(1):
            told.append(image.global_values())
        self.same(told, [{}, {"a": 1}, {"a": 1}, {"a": 1, "b": 2}, {"a": 1, "b": 2}, {"a": 1, "b": 2}])


class Truths(LivingCase):
    """What the instructions of `and`, `or`, `not`, `if` and `while` come to."""

    def test_and(self):
        for left, right, value in ((True, True, True), (True, False, False), (False, True, False),
                                   (False, False, False)):
            named = (("a", left), ("b", right))
            self.comes_to("give a and b", ("done", value), (), named)

    def test_or(self):
        for left, right, value in ((True, True, True), (True, False, True), (False, True, True),
                                   (False, False, False)):
            named = (("a", left), ("b", right))
            self.comes_to("give a or b", ("done", value), (), named)

    def test_the_right_side_is_not_carried_out_needlessly(self):
        self.done("give false and missing", False)
        self.done("give true or missing", True)
        self.failed("true and missing", "no global")
        self.failed("false or missing", "no global")

    def test_if_and_while(self):
        self.done("if true then give 1 else give 2 end", 1)
        self.done("if false then give 1 else give 2 end", 2)
        self.done("if false then give 1 end; give 3", 3)
        self.done("var n; n := 0; while n < 5 do n := n + 1 end; give n", 5)
        self.done("while false do give 1 end; give 2", 2)

    def test_not(self):
        self.done("give not true", False)
        self.done("give not false", True)
        self.done("give not not true", True)


if __name__ == "__main__":
    unittest.main()
