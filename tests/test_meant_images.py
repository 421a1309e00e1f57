"""The image that a meaning tells: as the given one would be then, which itself stays as it was."""

import unittest

from livestead.errors import TaskError
from livestead.files import load, save
from livestead.images import Image
from tests.living import LivingCase, begun, make, made, state_of, stepped
from tests.meant import meaning_of

ROWS = ("class A x", "class B < A y", "A method set(a) x := a; give self end", "A method get() give x end",
        "A method block() give {1 + 2} end", "A method leave() give {give 5} end")


class MeantCase(LivingCase):
    def after(self, image, body):
        """The image behind a meaning; the given one is in every respect as it was."""
        told = save(image)
        found, after = meaning_of(image, body)
        self.assertEqual(save(image), told, body)
        self.assertIsInstance(after, Image)
        self.same(after.state(), ("none",))
        self.same(after.depth(), 0)
        self.assertRaises(TaskError, after.advance, 1)
        return after


class Told(MeantCase):
    def test_global_names(self):
        image = Image()
        image.put("a", 1)
        image.put("b", "t")
        after = self.after(image, "b := a + 1; c := none")
        self.same(sorted(after.global_values().items()), [("a", 1), ("b", 2), ("c", None)])
        self.same(image.global_values(), {"a": 1, "b": "t"})

    def test_what_was_done_ahead_of_a_failure(self):
        image = made(*ROWS)
        after = self.after(image, "a := (new A).set(5); b := 1; fail 0; b := 2")
        self.same(after.global_values(), {"a": ("object", 1), "b": 1})
        self.same(after.look(1), ("instance", "A", (("x", 5),)))
        self.same(image.objects(), [])

    def test_objects_in_the_order_of_their_making(self):
        after = self.after(made(*ROWS), "(new B).set(new A); {a | {}}; new Thing; b := {a, b | a}")
        self.same([after.look(number) for number in after.objects()],
                  [("instance", "B", (("x", ("object", 2)),)), ("instance", "A", ()), ("block", 1),
                   ("instance", "Thing", ()), ("block", 2)])
        self.same(after.global_values(), {"b": ("object", 5)})

    def test_objects_that_were_there(self):
        image = made(*ROWS)
        state_of(image, "a := (new A).set(1); new A; b := {a.get()}; none")
        after = self.after(image, "a.set(b.call() + 1); a := none; give new A")
        self.same(after.objects(), [1, 2, 3, 4])
        self.same(after.look(1), ("instance", "A", (("x", 2),)))
        self.same(image.look(1), ("instance", "A", (("x", 1),)))
        self.same(after.collect(), 3)
        self.same(after.objects(), [3])

    def test_numbers_go_on(self):
        image = made(*ROWS)
        state_of(image, "new A; new A; none")
        image.collect()
        after = self.after(image, "a := new A")
        self.same(after.objects(), [3])
        self.same(state_of(after, "give new A"), ("done", ("object", 4)))
        self.same(state_of(image, "give new A"), ("done", ("object", 3)))

    def test_no_value_is_kept_but_in_names(self):
        after = self.after(made(*ROWS), "give new A")
        self.same(after.objects(), [1])
        self.same(after.collect(), 1)

    def test_held_values_stay_held(self):
        image = made(*ROWS)
        image.hold(state_of(image, "give new A")[1])
        state_of(image, "")
        after = self.after(image, "new A")
        self.same(after.collect(), 1)
        self.same(after.objects(), [1])
        after.let_go()
        self.same(after.collect(), 1)
        self.same(image.collect(), 0)

    def test_definitions_and_changes(self):
        image = made(*ROWS)
        image.undo()
        after = self.after(image, "g := 1")
        self.same(after.changes(), image.changes())
        self.same(after.classes(), ["A", "B", "Thing"])
        self.same(after.redo(), 5)
        self.same(make(after, "class C"), 6)
        self.same(image.classes(), ["A", "B", "Thing"])
        self.same(image.redo(), 5)

    def test_hidden_slots(self):
        image = made(*ROWS)
        state_of(image, "a := (new A).set(7)")
        make(image, "no slot A x")
        after = self.after(image, "b := new A")
        self.same(after.look(1), ("instance", "A", (("x", 7),)))
        after.undo()
        self.same(state_of(after, "give a.get()"), ("done", 7))

    def test_two_images_share_nothing(self):
        image = made(*ROWS)
        state_of(image, "a := (new A).set(1); var1 := {a | a}")
        after = self.after(image, "n := 1")
        told = save(after)
        state_of(image, "a.set(9); a := 5; b := new A")
        make(image, "no method A get/0")
        image.collect()
        self.assertEqual(save(after), told)
        told = save(image)
        state_of(after, "a.set(2); a := none; c := {5}")
        make(after, "no method A set/1")
        after.collect()
        self.assertEqual(save(image), told)

    def test_places_are_not_shared(self):
        image = made(*ROWS)
        state_of(image, "var n; n := 0; up := {n := n + 1; n}; now := {n}")
        after = self.after(image, "up.call(); up.call()")
        self.same(state_of(after, "give now.call()"), ("done", 2))
        self.same(state_of(image, "give now.call()"), ("done", 0))

    def test_it_can_be_meant_again_and_saved(self):
        image = made(*ROWS)
        for number in range(1, 6):
            image = self.after(image, "a := (new A).set({5})")
            self.same(image.objects(), list(range(1, 2 * number + 1)))
            image = load(save(image))
        self.same(image.collect(), 8)

    def test_more_than_60_objects(self):
        after = self.after(made(*ROWS), "var n; n := 0; while n < 80 do a := new A; n := n + 1 end")
        self.same(after.objects(), list(range(1, 81)))
        self.same(load(save(after)).objects(), after.objects())
        # The next object needs room: garbage is collected.
        self.same(state_of(after, "give new A"), ("done", ("object", 81)))
        self.same(after.objects(), [80, 81])

    def test_more_than_60_that_can_be_reached(self):
        after = self.after(made(*ROWS), "var n; a := none; n := 0; while n < 70 do a := (new A).set(a); n := n + 1 end")
        self.same(state_of(after, "new A"), ("failed", "memory"))
        self.same(after.collect(), 0)
        self.same(meaning_of(after, "give {}")[0], ("done", ("object", 71)))


class Codes(MeantCase):
    def steps(self, image, body):
        return stepped(begun(image, body), 1)

    def test_blocks_that_were_made_have_plain_code(self):
        after = self.after(made(*ROWS), "a := {1 + 2}; b := (new A).block()")
        # Two for the name and the send, four in the block, one to give.
        self.same(self.steps(after, "give a.call()"), 7)
        self.same(self.steps(after, "give b.call()"), 7)

    def test_blocks_that_were_there_keep_their_code(self):
        image = made(*ROWS)
        state_of(image, "a := {1 + 2}", True)
        state_of(image, "b := {1 + 2}", False)
        after = self.after(image, "c := a.call() + b.call()")
        self.same(after.global_values()["c"], 6)
        self.same(self.steps(after, "give a.call()"), 5)
        self.same(self.steps(after, "give b.call()"), 7)

    def test_blocks_made_by_blocks_with_optimized_code(self):
        image = made(*ROWS)
        state_of(image, "a := {if false then {9} end; {1 + 2}}", True)
        after = self.after(image, "b := a.call(); g := b.call()")
        self.same(after.global_values()["g"], 3)
        self.same(self.steps(after, "give b.call()"), 7)

    def test_blocks_of_a_class_as_it_was(self):
        image = made("class A s", "A method f() s := 1; give {{s}} end")
        state_of(image, "b := (new A).f(); s := 7", True)
        make(image, "no slot A s")
        self.same(meaning_of(image, "give b.call().call()")[0], ("failed", "no slot"))
        make(image, "slot A s")
        self.same(meaning_of(image, "give b.call().call()")[0], ("done", 1))
        make(image, "no method A f/0")
        self.same(meaning_of(image, "give b.call().call()")[0], ("done", 1))


class Running(MeantCase):
    """The given image may have a task that runs: it goes on as if nothing had been."""

    BODY = ("var a; a := (new A).set({give 4}); h := a; b := {a}; try a.get().call(1) catch e then end; "
            "keep fail {new A}.call() always a.set(6) end")

    def test_at_every_step(self):
        alone = made(*ROWS)
        wanted = state_of(alone, self.BODY)
        image = begun(made(*ROWS), self.BODY)
        while image.state() == ("running",):
            after = self.after(image, "try h.get().call() catch e then k := e end; n := {new A}.call(); h := 5")
            self.same(after.global_values()["n"], ("object", after.objects()[-1]))
            image.advance(1)
        self.same(image.state(), wanted)
        self.same(image.objects(), alone.objects())
        self.same(image.global_values(), alone.global_values())

    def test_its_objects_are_told_too(self):
        image = begun(made(*ROWS), "var a; a := new A; {1}.call(); 2")
        image.advance(3)
        after = self.after(image, "")
        self.same(after.objects(), [1, 2])
        self.same(after.collect(), 2)
        self.same(image.collect(), 0)

    def test_a_block_of_its_call_gives_too_late(self):
        image = begun(made(*ROWS), "var n; n := 1; b := {n := n + 1; give n}; b.call(); give 6")
        image.advance(4)
        self.same(meaning_of(image, "b.call()")[0], ("failed", "given too late"))
        after = self.after(image, "try b.call() catch e then end")
        self.same(state_of(after, "b.call()"), ("failed", "given too late"))
        image.advance(100)
        self.same(image.state(), ("done", 2))

    def test_a_block_of_a_call_below(self):
        image = begun(made(*ROWS, "A method run(k) b := {give k}; 1; 2; 3; b.call() end"), "give (new A).run(8) + 1")
        image.advance(8)
        self.same(image.depth(), 2)
        self.same(meaning_of(image, "b.call()")[0], ("failed", "given too late"))
        image.advance(100)
        self.same(image.state(), ("done", 9))

    def test_the_depth_begins_anew(self):
        image = begun(made("class A", "A method f(n) if n = 1 then give 'in' end; give self.f(n - 1) end"),
                      "give (new A).f(11)")
        image.advance(60)
        self.assertGreater(image.depth(), 5)
        self.same(meaning_of(image, "give (new A).f(11)")[0], ("done", "in"))
        self.same(meaning_of(image, "give (new A).f(12)")[0], ("failed", "too deep"))

    def test_a_task_that_has_ended(self):
        for body in ("give new A", "fail new A"):
            image = made(*ROWS)
            state_of(image, body)
            after = self.after(image, "none")
            self.same(after.collect(), 1)
            self.same(image.collect(), 0)


if __name__ == "__main__":
    unittest.main()
