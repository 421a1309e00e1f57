"""Points 28 to 31: undo, redo and take_out, what they are refused for, changes while a task runs."""

import unittest

from livestead.images import Image
from tests.living import LivingCase, begun, made, make, state_of


def in_force(image):
    return "".join("1" if flag else "0" for _, flag in image.changes())


class Undo(LivingCase):
    def test_the_newest_in_force(self):
        image = made("class A", "slot A x", "slot A y")
        self.same(image.undo(), 2)
        self.same(image.slots_of("A"), ("x",))
        self.same(image.undo(), 1)
        self.same(image.undo(), 0)
        self.same(image.classes(), ["Thing"])
        self.same(in_force(image), "000")

    def test_nothing_left(self):
        image = made("class A")
        image.undo()
        for _ in range(2):
            self.refused(-1, image.undo)
        self.refused(-1, Image().undo)
        self.same(image.redo(), 0)

    def test_a_method_in_place_of_another(self):
        image = made("class A", "A method f() give 1 end", "A method f() give 2 end", "no method A f/0")
        image.undo()
        self.same(image.text_of("A", "f/0"), "method f() give 2 end")
        image.undo()
        self.same(image.text_of("A", "f/0"), "method f() give 1 end")
        image.undo()
        self.same(image.selectors_of("A"), [])

    def test_a_class_that_was_taken_away(self):
        image = made("class A x", "A method f() end", "no class A")
        image.undo()
        self.same(image.slots_of("A"), ("x",))
        self.same(image.selectors_of("A"), ["f/0"])

    def test_past_what_was_taken_out(self):
        image = made("class A", "slot A x", "slot A y", "slot A z")
        image.take_out(2)
        self.same(image.undo(), 3)
        self.same(image.undo(), 1)
        self.same(in_force(image), "1000")


class Redo(LivingCase):
    def test_what_was_undone_last(self):
        image = made("class A", "slot A x", "slot A y")
        image.undo()
        image.undo()
        self.same(image.redo(), 1)
        self.same(image.slots_of("A"), ("x",))
        self.same(image.redo(), 2)
        self.same(image.slots_of("A"), ("x", "y"))
        self.refused(-1, image.redo)

    def test_nothing_was_undone(self):
        self.refused(-1, Image().redo)
        self.refused(-1, made("class A").redo)

    def test_a_new_change_forgets(self):
        image = made("class A", "slot A x", "slot A y")
        image.undo()
        image.undo()
        image.redo()
        self.same(make(image, "slot A z"), 3)
        self.refused(-1, image.redo)
        self.same(in_force(image), "1101")
        self.same(image.slots_of("A"), ("x", "z"))

    def test_take_out_forgets(self):
        image = made("class A", "slot A x", "slot A y")
        image.undo()
        image.take_out(1)
        self.refused(-1, image.redo)
        self.same(in_force(image), "100")

    def test_what_is_refused_forgets_nothing(self):
        image = made("class A", "slot A x", "slot A y")
        image.undo()
        self.refused(3, make, image, "slot A x")
        self.refused(1, image.take_out, 0)
        self.refused(-1, image.take_out, 2)
        self.assertRaises(ValueError, make, image, "A method f(")
        self.same(image.redo(), 2)

    def test_take_out_is_not_remembered(self):
        image = made("class A", "slot A x")
        image.take_out(1)
        self.refused(-1, image.redo)
        self.same(image.undo(), 0)
        self.same(image.redo(), 0)
        self.refused(-1, image.redo)

    def test_down_and_up_again(self):
        image = made("class A", "slot A x", "A method f() give x end", "no slot A x", "slot A x")
        for _ in range(3):
            self.same([image.undo() for _ in range(5)], [4, 3, 2, 1, 0])
            self.same([image.redo() for _ in range(5)], [0, 1, 2, 3, 4])
        self.same(in_force(image), "11111")


class TakeOut(LivingCase):
    def test_out_of_the_middle(self):
        image = made("class A", "slot A x", "slot A y")
        self.same(image.take_out(1), None)
        self.same(image.slots_of("A"), ("y",))
        self.same(in_force(image), "101")

    def test_the_newest(self):
        image = made("class A", "class B")
        image.take_out(1)
        self.same(image.classes(), ["A", "Thing"])

    def test_what_stood_in_place_of_another(self):
        image = made("class A", "A method f() give 1 end", "A method f() give 2 end")
        image.take_out(1)
        self.same(image.text_of("A", "f/0"), "method f() give 2 end")
        image.take_out(2)
        self.same(image.selectors_of("A"), [])

    def test_what_later_changes_need(self):
        image = made("class A", "class B < A", "slot A x", "A method f() give x end", "no slot A x")
        told = image.changes()
        self.refused(1, image.take_out, 0)
        self.refused(4, image.take_out, 2)
        self.same(image.changes(), told)
        self.same(image.classes(), ["A", "B", "Thing"])
        image.take_out(1)
        self.refused(2, image.take_out, 0)

    def test_what_stood_in_the_way(self):
        image = made("class A x", "no slot A x", "slot A x", "class B", "no class B", "class B < A")
        self.refused(2, image.take_out, 1)
        self.refused(5, image.take_out, 4)
        self.refused(4, image.take_out, 3)

    def test_a_slot_that_comes_twice(self):
        image = made("class A", "class B < A x", "no slot B x", "slot A x")
        self.refused(3, image.take_out, 2)
        image.undo()
        image.take_out(2)
        self.same(image.slots_of("B"), ("x",))

    def test_bounds_are_kept_behind_it(self):
        image = made("class A a b c d e f g h", "no slot A a", "slot A i")
        self.refused(2, image.take_out, 1)
        image = made(*[f"class C{number}" for number in range(19)], "no class C0", "class D")
        self.refused(20, image.take_out, 19)

    def test_no_such_change_in_force(self):
        image = made("class A", "class B", "class C")
        image.undo()
        image.take_out(0)
        for number in (0, 2, 3, 100, -1, -2, -3):
            self.refused(-1, image.take_out, number)
        self.same(in_force(image), "010")
        self.refused(-1, Image().take_out, 0)


class WhileATaskRuns(LivingCase):
    ROWS = ("class A x", "A method f() g := 1; g := g + 1; give g end", "A method set(a) x := a end",
            "A method get() give x end")

    def within(self, body, depth):
        """An image with a task that goes on until it has so many frames."""
        image = begun(made(*self.ROWS), body)
        while image.depth() < depth:
            image.advance(1)
        return image

    def ends(self, image, state):
        image.advance(1000)
        self.same(image.state(), state)

    def test_a_method_is_replaced(self):
        image = self.within("(new A).f(); give (new A).f()", 2)
        make(image, "A method f() give 7 end")
        self.same(image.depth(), 2)
        self.ends(image, ("done", 7))
        self.same(image.global_values(), {"g": 2})

    def test_a_method_is_taken_away(self):
        image = self.within("give (new A).f()", 2)
        make(image, "no method A f/0")
        self.ends(image, ("done", 2))
        self.same(state_of(image, "give (new A).f()"), ("failed", "not understood"))

    def test_a_method_is_replaced_and_the_change_undone(self):
        image = self.within("(new A).f(); give (new A).f()", 2)
        make(image, "A method f() give 7 end")
        image.undo()
        self.ends(image, ("done", 2))

    def test_a_class_is_taken_away_and_made_again(self):
        image = self.within("a := new A; a.set(5); g := a.f(); give a.get()", 2)
        make(image, "no class A")
        self.ends(image, ("failed", "no slot"))
        image = self.within("a := new A; a.set(5); g := a.f(); give a.get()", 2)
        make(image, "no class A")
        image.undo()
        self.ends(image, ("done", 5))

    def test_a_new_method_is_found_at_once(self):
        image = begun(made("class A"), "give (new A).f()")
        image.advance(1)
        make(image, "A method f() give 3 end")
        self.ends(image, ("done", 3))

    def test_a_slot_is_taken_away_and_put_back(self):
        image = self.within("a := new A; a.set(5); {a.get()}.call(); give a.get()", 3)
        make(image, "no slot A x")
        make(image, "slot A x")
        self.ends(image, ("done", 5))

    def test_a_block_keeps_its_code(self):
        image = made("class A x", "A method f() x := 1; give {x} end")
        state_of(image, "b := (new A).f()")
        make(image, "A method f() give {2} end")
        self.same(state_of(image, "give b.call()"), ("done", 1))

    def test_names_are_what_they_are_when_a_method_is_compiled(self):
        image = made("class A", "A method f() s := 1; give s end")
        state_of(image, "a := new A; a.f()")
        self.same(image.look(1), ("instance", "A", ()))
        self.same(image.global_values()["s"], 1)
        make(image, "slot A s")
        self.same(state_of(image, "s := 8; give a.f()"), ("done", 1))
        self.same(image.look(1), ("instance", "A", (("s", 1),)))
        self.same(image.global_values()["s"], 8)

    def test_a_slot_of_a_class_above(self):
        image = made("class A", "class B < A", "B method f() s := 1 end")
        make(image, "slot A s")
        state_of(image, "b := new B; b.f()")
        self.same(image.look(1), ("instance", "B", (("s", 1),)))

    def test_a_slot_of_a_class_below_is_none_of_the_method(self):
        image = made("class A", "class B < A s", "A method f() s := 1 end")
        state_of(image, "b := new B; b.f()")
        self.same(image.look(1), ("instance", "B", ()))
        self.same(image.global_values()["s"], 1)

    def test_objects_and_names_stay_when_changes_are_undone(self):
        image = made("class A x", "A method set(a) x := a end")
        state_of(image, "a := new A; a.set(1)")
        image.undo()
        image.undo()
        self.same(image.look(1), ("instance", "A", (("x", 1),)))
        self.same(image.global_values(), {"a": ("object", 1)})
        image.redo()
        image.redo()
        self.same(state_of(image, "a.set(2)"), ("done", None))


if __name__ == "__main__":
    unittest.main()
