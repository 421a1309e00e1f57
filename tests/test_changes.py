"""Points 27 and 28: the changes, what each is refused for, their numbers and their bounds."""

import unittest

from livestead.errors import LivesteadError, NameTwice, SourceError
from livestead.images import Image
from tests.living import LivingCase, change_of, made, make


class ChangesCase(LivingCase):
    def defined(self, image):
        """All that can be asked of the definitions of an image."""
        return repr({name: (image.base_of(name), image.slots_of(name), {
            selector: image.text_of(name, selector) for selector in image.selectors_of(name)})
            for name in image.classes()})

    def told(self, image):
        return self.defined(image), image.changes()

    def refuses(self, image, *rows):
        """Changes that are refused change nothing; they would get the next number."""
        for row in rows:
            told = self.told(image)
            self.refused(len(image.changes()), make, image, row)
            self.assertEqual(self.told(image), told, row)


class Classes(ChangesCase):
    def test_a_new_class(self):
        image = made("class A x y", "class B < A z")
        self.same(image.slots_of("B"), ("x", "y", "z"))
        self.same(image.base_of("B"), "A")

    def test_refused(self):
        image = made("class A x y", "class B < A z")
        self.refuses(image, "class A", "class A < B", "class B < A", "class Thing", "class C < D",
                     "class C < C", "class C x x", "class C a b a", "class C < A x", "class C < B x",
                     "class C < B z", "class C < B a y")

    def test_a_slot_of_a_class_that_is_not_above(self):
        image = made("class A x y", "class B < A z", "class C < A z", "class D x y z")
        self.same(image.slots_of("C"), ("x", "y", "z"))

    def test_the_number_of_slots(self):
        image = made("class A a b c d e f g h", "class B < A i j k l m n o p")
        self.same(len(image.slots_of("B")), 16)
        self.refuses(image, "class C a b c d e f g h i", "class C < B q r s t u v w x y")

    def test_the_number_of_classes(self):
        rows = [f"class C{number}" for number in range(19)]
        image = made(*rows[:18])
        self.same(make(image, rows[18]), 18)
        self.same(len(image.classes()), 20)
        self.refuses(image, "class D", "class D < C1")
        make(image, "no class C3")
        self.same(make(image, "class D < C1"), 20)
        self.refuses(image, "class C3")


class NoClass(ChangesCase):
    def test_taken_away(self):
        image = made("class A x", "A method f() end", "no class A")
        self.same(image.classes(), ["Thing"])
        make(image, "class A y")
        self.same(image.slots_of("A"), ("y",))
        self.same(image.selectors_of("A"), [])

    def test_refused(self):
        image = made("class A", "class B < A", "class C < B")
        self.refuses(image, "no class Thing", "no class D", "no class A", "no class B")
        make(image, "no class C")
        self.refuses(image, "no class C", "no class A")
        make(image, "no class B")
        make(image, "no class A")


class Slot(ChangesCase):
    def test_one_more(self):
        image = made("class A x", "slot A y")
        self.same(image.slots_of("A"), ("x", "y"))

    def test_refused(self):
        image = made("class A x", "class B < A y", "class C < B z", "class D < A w")
        self.refuses(image, "slot E x", "slot Thing x", "slot A x", "slot A y", "slot A z", "slot A w",
                     "slot B x", "slot B y", "slot B z", "slot C x", "slot C y", "slot C z")
        self.same(make(image, "slot B w"), 4)
        self.same(make(image, "slot D y"), 5)

    def test_the_number_of_slots(self):
        image = made("class A a b c d e f g", "slot A h", "class B < A")
        self.refuses(image, "slot A i")
        make(image, "slot B i")
        make(image, "no slot A c")
        make(image, "slot A j")
        self.same(image.slots_of("A"), ("a", "b", "d", "e", "f", "g", "h", "j"))


class NoSlot(ChangesCase):
    def test_taken_away(self):
        image = made("class A x y z", "no slot A y")
        self.same(image.slots_of("A"), ("x", "z"))

    def test_refused(self):
        image = made("class A x", "class B < A y", "class C < B")
        self.refuses(image, "no slot D x", "no slot Thing x", "no slot A y", "no slot B x",
                     "no slot C y", "no slot C x")
        make(image, "no slot A x")
        self.refuses(image, "no slot A x")


class Methods(ChangesCase):
    def test_in_place_of_one_with_the_same_selector(self):
        image = made("class A", "A method f(a) give a end", "A method f() end", "A method f(b) end")
        self.same(image.selectors_of("A"), ["f/0", "f/1"])
        self.same(image.text_of("A", "f/1"), "method f(b) end")

    def test_refused(self):
        image = made("class A")
        self.refuses(image, "B method f() end", "Thing method f() end")

    def test_errors_of_the_text_come_ahead(self):
        image = made("class A")
        for name in ("A", "B", "Thing"):
            told = self.told(image)
            with self.assertRaises(SourceError) as caught:
                image.make(("method", name, "method f() ! end"))
            self.same(caught.exception.at, 11)
            with self.assertRaises(NameTwice) as caught:
                image.make(("method", name, "method f(a) var a; end"))
            self.same(caught.exception.name, "a")
            self.assertEqual(self.told(image), told)

    def test_no_method(self):
        image = made("class A", "class B < A", "A method f() end", "A method f(a) end")
        self.refuses(image, "no method C f/0", "no method Thing f/0", "no method A f/2",
                     "no method A f", "no method B f/0", "no method A g/0")
        make(image, "no method A f/0")
        self.same(image.selectors_of("A"), ["f/1"])
        self.refuses(image, "no method A f/0")

    def test_many_methods(self):
        image = made("class A", *[f"A method f{number}() end" for number in range(50)])
        self.same(len(image.selectors_of("A")), 50)


class Numbers(ChangesCase):
    def test_from_0_on(self):
        image = Image()
        rows = ("class A x", "A method f() end", "slot A y", "no slot A x", "no method A f/0", "no class A")
        for number, row in enumerate(rows):
            self.same(make(image, row), number)
        self.same(image.changes(), [(change_of(row), True) for row in rows])

    def test_a_refused_change_gets_none(self):
        image = made("class A")
        self.refuses(image, "class A")
        self.refuses(image, "class A")
        self.same(make(image, "class B"), 1)

    def test_60_changes(self):
        image = made("class A")
        for number in range(1, 60):
            self.same(make(image, f"A method f() give {number} end"), number)
        self.refuses(image, "A method f() end", "class B", "no class A")
        self.assertRaises(SourceError, make, image, "A method f( end")
        self.same(image.text_of("A", "f/0"), "method f() give 59 end")

    def test_changes_out_of_force_count_too(self):
        image = made("class A")
        for number in range(1, 60):
            make(image, f"A method f() give {number} end")
        self.same(image.undo(), 59)
        self.same(image.undo(), 58)
        image.take_out(5)
        self.refused(60, make, image, "class B")
        self.same(len(image.changes()), 60)
        self.same(image.text_of("A", "f/0"), "method f() give 57 end")

    def test_the_definitions_are_what_the_changes_in_force_make(self):
        rows = ("class A x", "class B < A y", "A method f() end", "slot A z", "B method f() give 1 end",
                "no slot A x", "A method g() give z end", "no method A f/0", "class C < B", "slot C x",
                "no class C")
        image = Image()
        for count, row in enumerate(rows, 1):
            make(image, row)
            self.assertEqual(self.told(image), self.told(made(*rows[:count])))
        for count in range(len(rows) - 1, -1, -1):
            image.undo()
            self.assertEqual(self.defined(image), self.defined(made(*rows[:count])))

    def test_wrong_changes_are_told_by_errors_of_the_program(self):
        image = made("class A x", "A method f() end")
        for row in ("class A", "no class B", "slot A x", "no slot A y", "B method f() end",
                    "no method A g/0", "A method 5"):
            self.assertRaises(LivesteadError, make, image, row)


if __name__ == "__main__":
    unittest.main()
