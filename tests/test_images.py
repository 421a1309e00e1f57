"""Points 3, 4 and 21: new images, classes, instances and their slots, global names, what is told."""

import unittest

from livestead.images import Image
from tests.living import LivingCase, made, make, state_of


class NewImages(LivingCase):
    def test_a_new_image(self):
        image = Image()
        self.same(image.classes(), ["Thing"])
        self.same(image.base_of("Thing"), None)
        self.same(image.slots_of("Thing"), ())
        self.same(image.selectors_of("Thing"), [])
        self.same(image.changes(), [])
        self.same(image.objects(), [])
        self.same(image.global_values(), {})
        self.same(image.state(), ("none",))
        self.same(image.depth(), 0)
        self.same(image.collect(), 0)

    def test_thing_cannot_be_changed(self):
        image = Image()
        for row in ("class Thing", "no class Thing", "slot Thing x", "no slot Thing x",
                    "Thing method f() end", "no method Thing f/0"):
            self.refused(0, make, image, row)
        self.same(image.changes(), [])
        self.same(image.classes(), ["Thing"])

    def test_two_images_share_nothing(self):
        first, second = Image(), Image()
        make(first, "class A x")
        first.put("g", 1)
        state_of(first, "h := new A; give 5")
        self.same(second.classes(), ["Thing"])
        self.same(second.global_values(), {})
        self.same(second.objects(), [])
        self.same(second.changes(), [])
        self.same(second.state(), ("none",))
        make(second, "class A y")
        self.same(first.slots_of("A"), ("x",))
        self.same(Image().classes(), ["Thing"])


class Classes(LivingCase):
    def test_names_in_ascending_order(self):
        image = made("class Bb", "class A", "class C < A", "class Ba", "class B")
        self.same(image.classes(), ["A", "B", "Ba", "Bb", "C", "Thing"])

    def test_bases(self):
        image = made("class A", "class B < A", "class C < B", "class D")
        self.same([image.base_of(name) for name in "ABCD"], ["Thing", "A", "B", "Thing"])

    def test_slots_of_the_classes_above_stand_first(self):
        image = made("class B z y", "class C < B x a", "class D < C", "slot D m", "slot C b",
                     "slot B q", "slot D c")
        self.same(image.slots_of("B"), ("z", "y", "q"))
        self.same(image.slots_of("C"), ("z", "y", "q", "x", "a", "b"))
        self.same(image.slots_of("D"), ("z", "y", "q", "x", "a", "b", "m", "c"))

    def test_a_slot_that_comes_again_stands_last(self):
        image = made("class A x y z", "no slot A x", "slot A x")
        self.same(image.slots_of("A"), ("y", "z", "x"))

    def test_methods(self):
        image = made("class A", "class B < A", "A method g() end", "A method f(a,b)  give(a) end",
                     "A method f() end", "B method h() end", "A method f2() end")
        self.same(image.selectors_of("A"), ["f/0", "f/2", "f2/0", "g/0"])
        self.same(image.selectors_of("B"), ["h/0"])
        self.same(image.text_of("A", "f/2"), "method f(a,b)  give(a) end")
        self.same(image.text_of("B", "h/0"), "method h() end")

    def test_what_is_not_there(self):
        image = made("class A", "A method f() end", "class B < A")
        for action in (image.base_of, image.slots_of, image.selectors_of):
            self.assertRaises(KeyError, action, "C")
        for name, selector in (("C", "f/0"), ("A", "f/1"), ("A", "f"), ("A", "g/0"), ("B", "f/0"),
                               ("Thing", "f/0")):
            self.assertRaises(KeyError, image.text_of, name, selector)
        make(image, "no class B")
        self.assertRaises(KeyError, image.base_of, "B")


class Slots(LivingCase):
    ROWS = ("class A x y", "A method set(a) x := a end", "A method get() give x end")

    def test_nothing_is_put_in_yet(self):
        image = made(*self.ROWS)
        self.same(state_of(image, "a := new A; give a.get()"), ("done", None))
        self.same(image.look(1), ("instance", "A", ()))

    def test_what_was_put_in(self):
        image = made(*self.ROWS, "class B < A z", "B method both() z := 1; y := none; give x end")
        self.same(state_of(image, "a := new B; a.set('t'); give a.both()"), ("done", "t"))
        self.same(image.look(1), ("instance", "B", (("x", "t"), ("y", None), ("z", 1))))

    def test_each_instance_has_its_own(self):
        image = made(*self.ROWS)
        self.same(state_of(image, "a := new A; b := new A; a.set(1); b.set(2); give a.get()"),
                  ("done", 1))
        self.same(image.look(2), ("instance", "A", (("x", 2),)))

    def test_a_slot_that_is_taken_away_and_put_back(self):
        image = made(*self.ROWS)
        state_of(image, "a := new A; a.set(5)")
        make(image, "no slot A x")
        self.same(image.look(1), ("instance", "A", (("x", 5),)))
        self.same(state_of(image, "give a.get()"), ("failed", "no global"))
        make(image, "slot A x")
        self.same(state_of(image, "give a.get()"), ("done", 5))

    def test_a_slot_that_comes_to_a_class_above(self):
        image = made("class A", "class B < A x", "B method set(a) x := a end",
                     "B method get() give x end")
        state_of(image, "a := new B; a.set(5)")
        make(image, "no slot B x")
        make(image, "slot A x")
        self.same(state_of(image, "give a.get()"), ("done", 5))

    def test_a_class_that_is_taken_away_and_made_again(self):
        image = made(*self.ROWS)
        state_of(image, "a := new A; a.set(5)")
        make(image, "no class A")
        self.same(image.objects(), [1])
        self.same(image.look(1), ("instance", "A", (("x", 5),)))
        self.same(state_of(image, "give a.get()"), ("failed", "not understood"))
        make(image, "class A y x")
        self.same(state_of(image, "give a.get()"), ("failed", "not understood"))
        make(image, "A method get() give x end")
        self.same(state_of(image, "give a.get()"), ("done", 5))


class GlobalNames(LivingCase):
    def test_values_of_all_kinds(self):
        image = Image()
        values = {"a": None, "b": True, "c": False, "d": 0, "e": -1000000000, "f": "", "g": "x" * 200}
        for name, value in values.items():
            image.put(name, value)
        self.same(image.global_values(), values)
        for name, value in values.items():
            self.same(state_of(image, f"give {name}"), ("done", value))

    def test_objects(self):
        image = made("class A")
        self.same(state_of(image, "give new A"), ("done", ("object", 1)))
        image.put("a", ("object", 1))
        self.same(state_of(image, "b := a; give a = b"), ("done", True))
        self.same(image.global_values(), {"a": ("object", 1), "b": ("object", 1)})

    def test_put_again(self):
        image = Image()
        image.put("a", 1)
        image.put("a", None)
        self.same(image.global_values(), {"a": None})

    def test_what_is_put_by_a_body(self):
        image = Image()
        state_of(image, "a := 1; b := 'x'; a := a + 1")
        self.same(image.global_values(), {"a": 2, "b": "x"})

    def test_a_name_that_is_only_read_is_not_there(self):
        image = Image()
        self.same(state_of(image, "give a"), ("failed", "no global"))
        self.same(image.global_values(), {})


class Objects(LivingCase):
    def test_numbers_in_the_order_of_creation(self):
        image = made("class A")
        self.same(state_of(image, "a := {new A}; b := new A; c := a.call(); give {x, y | x}"),
                  ("done", ("object", 4)))
        self.same(image.objects(), [1, 2, 3, 4])
        self.same(image.look(1), ("block", 0))
        self.same(image.look(2), ("instance", "A", ()))
        self.same(image.look(4), ("block", 2))

    def test_instances_of_thing(self):
        image = Image()
        self.same(state_of(image, "give new Thing"), ("done", ("object", 1)))
        self.same(image.look(1), ("instance", "Thing", ()))

    def test_objects_that_are_not_there(self):
        image = made("class A")
        self.assertRaises(KeyError, image.look, 1)
        state_of(image, "new A; none")
        image.look(1)
        self.assertRaises(KeyError, image.look, 2)
        self.assertRaises(KeyError, image.look, 0)
        image.collect()
        self.assertRaises(KeyError, image.look, 1)

    def test_equal_is_the_same_object_alone(self):
        self.done("a := new Thing; give a = a", True)
        self.done("give new Thing = new Thing", False)
        self.done("give {} = {}", False)
        self.done("a := new Thing; give a = 1 or a = none or a = 'object' or a = true", False)


class HandedOut(LivingCase):
    def test_what_is_handed_out_may_be_changed(self):
        image = made("class A x", "A method f() end")
        state_of(image, "a := new A")
        told = (image.changes(), image.classes(), image.selectors_of("A"), image.objects(),
                image.global_values())
        for rows in told[:4]:
            rows.clear()
        told[4]["a"] = 5
        told[4]["b"] = 5
        self.same(len(image.changes()), 2)
        self.same(image.classes(), ["A", "Thing"])
        self.same(image.selectors_of("A"), ["f/0"])
        self.same(image.objects(), [1])
        self.same(image.global_values(), {"a": ("object", 1)})


if __name__ == "__main__":
    unittest.main()
