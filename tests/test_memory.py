"""Points 4 and 26: an image has at most 60 objects, and garbage is collected when there are 60."""

import unittest

from livestead.images import Image
from tests.living import LivingCase, begun, fill, made, state_of

# A chain of so many instances that hang on the global name `a`.
CHAIN = "var n, k; n := 0; while n < {} do k := new A; k.set(a); a := k; n := n + 1 end"
ROWS = ("class A x", "A method set(b) x := b end", "A method get() give x end")


class Memory(LivingCase):
    def test_the_60th_and_the_61st(self):
        for optimized in (False, True):
            image = made(*ROWS)
            image.put("a", None)
            self.same(state_of(image, CHAIN.format(60), optimized), ("done", None))
            self.same(image.objects(), list(range(1, 61)))
            self.same(state_of(image, "new A", optimized), ("failed", "memory"))
            self.same(state_of(image, "{}", optimized), ("failed", "memory"))
            self.same(image.objects(), list(range(1, 61)))

    def test_in_one_task(self):
        image = made(*ROWS)
        image.put("a", None)
        self.same(state_of(image, CHAIN.format(61)), ("failed", "memory"))
        self.same(len(image.objects()), 60)

    def test_the_failure_is_caught(self):
        image = made(*ROWS)
        image.put("a", None)
        state_of(image, CHAIN.format(60))
        self.same(state_of(image, "try new A catch e then give e end"), ("done", "memory"))
        self.same(state_of(image, "try {} catch e then give e end"), ("done", "memory"))
        self.same(state_of(image, "keep new A always b := 1 end"), ("failed", "memory"))
        self.same(state_of(image, "var c; c := 5; try c := new A catch e then give c end"), ("done", 5))

    def test_garbage_is_collected_when_there_are_60(self):
        image = made(*ROWS)
        body = "var n; n := 0; while n < 200 do new A; n := n + 1 end; give n"
        self.same(state_of(image, body), ("done", 200))
        self.assertLessEqual(len(image.objects()), 60)
        self.same(image.objects()[-1], 200)

    def test_not_before_there_are_60(self):
        image = made(*ROWS)
        state_of(image, "var n; n := 0; while n < 60 do new A; n := n + 1 end")
        self.same(image.objects(), list(range(1, 61)))
        self.same(state_of(image, "give new A"), ("done", ("object", 61)))
        self.same(image.objects(), [61])

    def test_what_a_task_needs_is_kept(self):
        image = made(*ROWS)
        fill(image, 58)
        self.same(state_of(image, "var b; b := new A; b.set(7); new A; new A; new A; give b.get()"),
                  ("done", 7))

    def test_room_for_one_more(self):
        image = made(*ROWS)
        fill(image, 59)
        self.same(state_of(image, "give new A"), ("done", ("object", 60)))
        self.same(state_of(image, "give {}"), ("done", ("object", 61)))
        self.same(state_of(image, "var b; b := {}; new A"), ("failed", "memory"))
        image.let_go()
        self.same(state_of(image, "var b; b := {}; give new A"), ("done", ("object", 64)))

    def test_blocks_count(self):
        image = Image()
        fill(image, 60)
        self.same(state_of(image, "{}"), ("failed", "memory"))
        self.same(state_of(image, "give 1"), ("done", 1))

    def test_an_object_on_the_stack_alone(self):
        image = made(*ROWS)
        fill(image, 59)
        self.same(state_of(image, "new A = new A"), ("failed", "memory"))
        self.same(state_of(image, "a := new A = 1; give new A = a"), ("done", False))

    def test_the_stack_stays_when_nothing_is_taken_away(self):
        image = made(*ROWS)
        fill(image, 60)
        begun(image, "var r; try r := 1 + {new A}.call() catch e then r := e end; give r").advance(100)
        self.same(image.state(), ("done", "memory"))


if __name__ == "__main__":
    unittest.main()
