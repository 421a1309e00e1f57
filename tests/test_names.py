"""Points 14 and 15: what a name means, and how it is told."""

import unittest

from livestead.names import place_of


class Names(unittest.TestCase):
    def means(self, name, scopes, slots, told):
        self.assertEqual(place_of(name, scopes, slots), told, (name, scopes, slots))

    def test_places_of_a_method(self):
        names = ("a", "b", "c")
        self.means("a", [names], (), ("local", 0, 0))
        self.means("b", [names], (), ("local", 0, 1))
        self.means("c", [names], (), ("local", 0, 2))

    def test_all_places(self):
        names = tuple(f"n{k}" for k in range(16))
        for k, name in enumerate(names):
            self.means(name, [("x",), names], (), ("local", 1, k))

    def test_places_further_out(self):
        scopes = [("a",), ("b", "c"), ("d", "e", "f")]
        self.means("a", scopes, (), ("local", 0, 0))
        self.means("b", scopes, (), ("local", 1, 0))
        self.means("c", scopes, (), ("local", 1, 1))
        self.means("d", scopes, (), ("local", 2, 0))
        self.means("f", scopes, (), ("local", 2, 2))

    def test_the_innermost_place(self):
        self.means("a", [("a",), ("b", "a"), ("c", "b", "a")], (), ("local", 0, 0))
        self.means("a", [("b",), ("b", "a"), ("c", "b", "a")], (), ("local", 1, 1))
        self.means("a", [("b",), ("b",), ("c", "b", "a")], (), ("local", 2, 2))
        self.means("b", [("a",), ("b", "a"), ("c", "b", "a")], (), ("local", 1, 0))

    def test_scopes_without_names_count(self):
        self.means("a", [(), ("a",)], (), ("local", 1, 0))
        self.means("a", [(), (), (), ("b", "a")], (), ("local", 3, 1))
        self.means("a", [("b",), (), ("a",)], (), ("local", 2, 0))

    def test_slots(self):
        self.means("a", [()], ("a",), ("slot", "a"))
        self.means("a", [("b",)], ("c", "a"), ("slot", "a"))
        self.means("a", [], ("a",), ("slot", "a"))

    def test_a_place_is_ahead_of_a_slot(self):
        self.means("a", [("a",)], ("a",), ("local", 0, 0))
        self.means("a", [(), ("b",), ("c", "a")], ("a", "b"), ("local", 2, 1))

    def test_global_names(self):
        self.means("a", [], (), ("global", "a"))
        self.means("a", [()], (), ("global", "a"))
        self.means("a", [("b",), ("c",)], ("d", "e"), ("global", "a"))

    def test_a_slot_is_ahead_of_a_global_name(self):
        # Whether a global name of the same name is there changes nothing.
        self.means("a", [("b",)], ("a",), ("slot", "a"))
        self.means("a", [("b",)], ("aa", "b"), ("global", "a"))

    def test_parts_of_names(self):
        self.means("a", [("ab", "ba")], ("aa",), ("global", "a"))
        self.means("ab", [("a", "b"), ("ab",)], (), ("local", 1, 0))

    def test_arguments_are_not_changed(self):
        scopes = [("a",), (), ("b",)]
        slots = ("c",)
        for name in ("a", "b", "c", "d"):
            place_of(name, scopes, slots)
        self.assertEqual(scopes, [("a",), (), ("b",)])
        self.assertEqual(slots, ("c",))


if __name__ == "__main__":
    unittest.main()
