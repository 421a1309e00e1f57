"""Point 32: what can be reached, and that collecting removes all else and nothing more."""

import unittest

from livestead.images import Image
from tests.living import LivingCase, begun, made, make, state_of

ROWS = ("class A x", "A method set(b) x := b; give self end", "A method get() give x end")


class CollectorCase(LivingCase):
    def left(self, image, removed, objects):
        """How many objects a collection removes, and which it leaves; another one removes none."""
        self.same(image.collect(), removed)
        self.same(image.objects(), objects)
        self.same(image.collect(), 0)

    def until(self, image, depth, then=0):
        """Goes on until the task has so many frames, and some steps more."""
        while image.depth() < depth:
            image.advance(1)
        image.advance(then)
        return image


class Roots(CollectorCase):
    def test_nothing(self):
        self.left(Image(), 0, [])

    def test_all_that_hangs_on_nothing(self):
        image = made(*ROWS)
        state_of(image, "new A; {}; new Thing; {a | a}; none")
        self.left(image, 4, [])

    def test_global_names(self):
        image = made(*ROWS)
        state_of(image, "a := new A; new A; b := {}; new A")
        self.left(image, 2, [1, 3])
        image.put("a", 1)
        self.left(image, 1, [3])

    def test_the_value_of_a_task(self):
        image = made(*ROWS)
        state_of(image, "new A; give new A")
        self.left(image, 1, [2])
        begun(image, "")
        self.left(image, 1, [])

    def test_the_failure_of_a_task(self):
        image = made(*ROWS)
        state_of(image, "new A; fail new A")
        self.left(image, 1, [2])
        self.same(image.state(), ("failed", ("object", 2)))
        state_of(image, "")
        self.left(image, 1, [])

    def test_held_values(self):
        image = made(*ROWS)
        state_of(image, "a := new A; b := new A; c := {}")
        for number in (1, 3, 3):
            image.hold(("object", number))
        image.hold(5)
        image.hold(None)
        for name in "abc":
            image.put(name, 1)
        state_of(image, "")
        self.left(image, 1, [1, 3])
        image.let_go()
        self.left(image, 2, [])
        image.let_go()


class Frames(CollectorCase):
    def test_the_stack(self):
        image = begun(made(*ROWS), "(new A).set(new A)")
        image.advance(2)
        self.left(image, 0, [1, 2])
        image.advance(1)
        self.left(image, 0, [1, 2])
        image.advance(100)
        self.left(image, 2, [])

    def test_the_stack_of_a_frame_below(self):
        image = self.until(begun(made(*ROWS), "new A = {1; 2; 3}.call()"), 2, 3)
        self.left(image, 1, [1])

    def test_places(self):
        image = begun(made(*ROWS), "var a; a := new A; new A; a := 5; new A; 1; 2")
        image.advance(4)
        self.left(image, 1, [1])
        image.advance(2)
        self.left(image, 1, [])

    def test_places_of_a_frame_below(self):
        image = self.until(begun(made(*ROWS), "var a; a := new A; {1; 2; 3}.call()"), 2, 2)
        self.left(image, 1, [1])

    def test_arguments(self):
        rows = ROWS + ("A method run(a) 1; 2; a := 1; 3; 4 end",)
        image = self.until(begun(made(*rows), "(new A).run(new A)"), 2, 2)
        self.left(image, 0, [1, 2])
        image.advance(4)
        self.left(image, 1, [1])

    def test_the_receiver(self):
        rows = ROWS + ("A method run() 1; 2; 3 end",)
        image = self.until(begun(made(*rows), "new A; (new A).run(); 1"), 2, 2)
        self.left(image, 1, [2])
        image.advance(6)
        self.same(image.depth(), 1)
        image.advance(1)
        self.left(image, 1, [])

    def test_places_around_a_block_that_runs(self):
        rows = ROWS + ("A method make(k) give {1; 2; k.get()} end",)
        image = self.until(begun(made(*rows), "give (new A).make((new A).set(7)).call()"), 2)
        while image.depth() > 1 or len(image.objects()) < 3:
            image.advance(1)
        self.until(image, 2, 2)
        # The block itself is needed no more: the frame has its receiver and the places around it.
        self.left(image, 1, [1, 2])
        image.advance(100)
        self.same(image.state(), ("done", 7))

    def test_a_note_of_a_failure(self):
        image = begun(made(*ROWS), "keep fail new A always 1; 2; 3 end")
        image.advance(3)
        self.left(image, 0, [1])
        image.advance(100)
        self.same(image.state(), ("failed", ("object", 1)))
        self.left(image, 0, [1])

    def test_a_note_of_a_giving(self):
        image = begun(made(*ROWS), "keep give new A always 1; 2; 3 end")
        image.advance(4)
        self.left(image, 0, [1])
        image.advance(100)
        self.same(image.state(), ("done", ("object", 1)))

    def test_a_note_in_a_frame_below(self):
        image = self.until(begun(made(*ROWS), "keep fail new A always {1; 2; 3}.call() end"), 2, 2)
        self.left(image, 1, [1])

    def test_what_was_taken_from_the_stack_when_a_mark_was_reached(self):
        for body, steps in (("try new A = 1 / 0 catch e then 1; 2 end", 5),
                            ("keep new A = 1 / 0 always 1; 2 end", 5),
                            ("try new A = {1 / 0}.call() catch e then 1; 2 end", 7),
                            ("keep new A = {give 5}.call() always 1; 2 end", 6)):
            image = begun(made(*ROWS), body)
            image.advance(steps - 1)
            self.assertIn(1, image.objects())
            image.collect()
            self.assertIn(1, image.objects())
            image.advance(1)
            self.same(image.state(), ("running",))
            image.collect()
            self.same(image.objects(), [], body)

    def test_notes_within_notes(self):
        image = begun(made(*ROWS), "keep fail new A always keep give new A always 1; 2 end end")
        image.advance(7)
        self.left(image, 0, [1, 2])
        image.advance(100)
        self.same(image.state(), ("done", ("object", 2)))
        self.left(image, 1, [2])

    def test_frames_that_are_left(self):
        rows = ROWS + ("A method f() var k; k := new A; fail 1 end",)
        image = made(*rows)
        state_of(image, "var a; a := new A; try a.f() catch e then end; new A; give 1")
        self.left(image, 3, [])


class Objects(CollectorCase):
    def test_slots(self):
        image = made(*ROWS)
        state_of(image, "a := (new A).set((new A).set({})); (new A).set(new A); none")
        self.left(image, 2, [1, 2, 3])

    def test_hidden_slots(self):
        image = made(*ROWS)
        state_of(image, "a := (new A).set(new A)")
        make(image, "no slot A x")
        self.left(image, 0, [1, 2])
        make(image, "no class A")
        self.left(image, 0, [1, 2])

    def test_the_receiver_of_a_block(self):
        image = made(*ROWS, "A method make() give {1} end")
        state_of(image, "b := (new A).make()")
        self.left(image, 0, [1, 2])

    def test_places_around_a_block(self):
        image = made(*ROWS)
        state_of(image, "var k, m; k := new A; m := new A; b := {m}; m := 5")
        self.left(image, 1, [1, 3])

    def test_places_around_the_places(self):
        image = made(*ROWS)
        state_of(image, "var k; k := new A; b := {m | {n | {1}}}.call(new A).call(new A)")
        # Of the three blocks the innermost is left; all places around it are kept.
        self.same(image.look(image.objects()[-1]), ("block", 0))
        self.left(image, 2, [1, 3, 5, 6])

    def test_circles(self):
        image = made(*ROWS)
        state_of(image, "var a, b; a := new A; b := new A; a.set(b); b.set(a); a := {}; a := {a}")
        self.left(image, 4, [])
        state_of(image, "a := new A; a.set(a); (new A).set(a)")
        self.left(image, 1, [5])
        image.put("a", None)
        self.left(image, 1, [])

    def test_a_block_that_holds_itself(self):
        image = made(*ROWS)
        state_of(image, "var f; f := {f}; g := f; f := g")
        self.left(image, 0, [1])
        image.put("g", None)
        self.left(image, 1, [])

    def test_a_long_chain(self):
        image = made(*ROWS)
        image.put("a", None)
        state_of(image, "var n; n := 0; while n < 50 do a := (new A).set(a); n := n + 1 end")
        self.left(image, 0, list(range(1, 51)))
        state_of(image, "a := a.get().get()")
        self.left(image, 2, list(range(1, 49)))


class NothingElse(CollectorCase):
    def test_numbers_are_never_used_again(self):
        image = made(*ROWS)
        state_of(image, "new A; {}; none")
        image.collect()
        self.same(state_of(image, "give new A"), ("done", ("object", 3)))
        state_of(image, "")
        image.collect()
        self.same(state_of(image, "give {}"), ("done", ("object", 4)))

    def test_what_is_left_is_as_it_was(self):
        image = made(*ROWS)
        state_of(image, "a := (new A).set({k | k}); new A; b := 5")
        told = (image.look(1), image.look(2), image.global_values(), image.changes(), image.classes())
        self.left(image, 1, [1, 2])
        self.same((image.look(1), image.look(2), image.global_values(), image.changes(),
                   image.classes()), told)

    def test_between_all_steps(self):
        rows = ROWS + ("A method f(n) var k; k := {m | x := m; n + m}; keep new A; if n = 0 then give k end; "
                       "give self.f(n - 1) always {new A}.call() end end",)
        body = "var a; a := new A; try b := a.f(3); fail b catch e then e := e.call(4) end; give e + a.get()"
        image = begun(made(*rows), body)
        many = 0
        while image.advance(1):
            many += image.collect()
        self.same(image.state(), ("done", 8))
        self.assertGreater(many, 5)
        other = made(*rows)
        self.same(state_of(other, body), ("done", 8))
        many_at_once = other.collect()
        self.same(other.objects(), image.objects())
        self.same(many_at_once, many)


if __name__ == "__main__":
    unittest.main()
