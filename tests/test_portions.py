"""Point 33: portions of steps, plain and optimized tasks, the state."""

import unittest

from livestead.errors import TaskError
from livestead.images import Image
from tests.living import LivingCase, begun, made, state_of, stepped

ROWS = ("class A x", "A method f(n) var k; k := 0; while k < n do x := k; k := k + 1 end; give {x + 1 + 1} end")
BODY = "var b; b := (new A).f(3); try b.call() + none catch e then g := e end; give b.call()"


class Portions(LivingCase):
    def test_no_task_was_ever_started(self):
        for number in (0, 1, 100):
            self.assertRaises(TaskError, Image().advance, number)

    def test_0_steps(self):
        image = begun(made(*ROWS), BODY)
        for _ in range(3):
            self.same(image.advance(0), 0)
        self.same(image.state(), ("running",))
        self.same(image.global_values(), {})

    def test_more_steps_than_there_are(self):
        image = begun(made(*ROWS), BODY)
        many = image.advance(100000)
        self.same(image.state(), ("done", 4))
        for number in (0, 1, 100):
            self.same(image.advance(number), 0)
        self.same(image.state(), ("done", 4))
        image = begun(made(*ROWS), BODY)
        self.same(image.advance(many - 1), many - 1)
        self.same(image.state(), ("running",))
        self.same(image.advance(1), 1)
        self.same(image.state(), ("done", 4))

    def test_exactly_as_many_as_asked_for(self):
        image = begun(made(*ROWS), BODY)
        self.same(image.advance(7), 7)
        self.same(image.advance(1), 1)
        self.same(image.advance(20), 20)

    def test_portions_of_all_sizes(self):
        for optimized in (False, True):
            whole = begun(made(*ROWS), BODY, optimized)
            many = whole.advance(100000)
            for portion in (1, 2, 3, 5, 7, 11, many - 1, many, many + 1):
                image = begun(made(*ROWS), BODY, optimized)
                self.same(stepped(image, portion), many)
                self.same(image.state(), whole.state())
                self.same(image.global_values(), whole.global_values())
                self.same([image.look(number) for number in image.objects()],
                          [whole.look(number) for number in whole.objects()])

    def test_a_task_without_an_end(self):
        image = begun(Image(), "g := 0; while true do g := g + 1 end")
        self.same(image.advance(5000), 5000)
        self.same(image.state(), ("running",))
        self.same(image.depth(), 1)


class States(LivingCase):
    def test_all_states(self):
        image = Image()
        self.same(image.state(), ("none",))
        begun(image, "1")
        self.same(image.state(), ("running",))
        image.advance(3)
        self.same(image.state(), ("running",))
        image.advance(1)
        self.same(image.state(), ("done", None))
        self.same(state_of(image, "fail none"), ("failed", None))
        self.same(state_of(image, "fail true"), ("failed", True))
        self.same(state_of(image, "give 1"), ("done", 1))

    def test_depth_at_the_end(self):
        image = Image()
        for body in ("give 1", "fail 1"):
            begun(image, body)
            self.same(image.depth(), 1)
            image.advance(10)
            self.same(image.depth(), 0)


class Optimized(LivingCase):
    def steps(self, body, optimized, *rows):
        return stepped(begun(made(*rows), body, optimized), 1)

    def test_fewer_steps(self):
        self.same(self.steps("give 1 + 2 * 3", False), 6)
        self.same(self.steps("give 1 + 2 * 3", True), 2)

    def test_methods_that_are_called(self):
        rows = ("class A", "A method f() give 1 + 2 * 3 end", "A method g() give self.f() end")
        self.same(self.steps("give (new A).g()", False, *rows) - self.steps("give (new A).g()", True, *rows), 4)

    def test_blocks(self):
        self.same(self.steps("give {1 + 2}.call()", False) - self.steps("give {1 + 2}.call()", True), 2)

    def test_a_block_has_the_code_it_was_made_with(self):
        for first, many in ((True, 2), (False, 4)):
            for second in (True, False):
                image = made()
                state_of(image, "b := {1 + 2}", first)
                self.same(stepped(begun(image, "b.call()", second), 1), many + 5)

    def test_plain_is_the_default(self):
        image = Image()
        image.start("method f() 1 + 2 end")
        self.same(image.advance(100), 6)

    def test_each_task_by_itself(self):
        rows = ("class A", "A method f() give 1 + 2 end")
        image = made(*rows)
        for optimized, many in ((False, 7), (True, 5), (False, 7), (True, 5)):
            self.same(stepped(begun(image, "give (new A).f()", optimized), 1), many)


if __name__ == "__main__":
    unittest.main()
