"""Point 39: merging of methods that came out of the same ones."""

import inspect
import unittest

from livestead.merging import merge

PAIR = ("A", "f/0")
OTHER = ("B", "g/1")
# What one pair may have in the base and on both sides (None: nothing); what it has then, and whether it
# is a conflict.
CASES = (
    (None, None, None, None, False), ("a", "a", "a", "a", False),
    # One side alone changes, makes or takes away.
    ("a", "b", "a", "b", False), ("a", "a", "b", "b", False), ("a", None, "a", None, False),
    ("a", "a", None, None, False), (None, "b", None, "b", False), (None, None, "b", "b", False),
    # Both do the same.
    ("a", "b", "b", "b", False), (None, "b", "b", "b", False), ("a", None, None, None, False),
    # Both do something else.
    ("a", "b", "c", "a", True), ("a", "b", None, "a", True), ("a", None, "b", "a", True),
    (None, "b", "c", None, True),
)


def dict_of(pair, text):
    return {} if text is None else {pair: text}


class Cases(unittest.TestCase):
    def test_all_cases_are_here(self):
        kinds = {(base, mine, theirs) for base, mine, theirs, _, _ in CASES}
        self.assertEqual(len(kinds), len(CASES))
        # Each of the three has something or not, and is the same as each other one or not.
        self.assertEqual(len(CASES), 15)

    def test_pair_by_pair(self):
        for base, mine, theirs, wanted, conflict in CASES:
            found = merge(dict_of(PAIR, base), dict_of(PAIR, mine), dict_of(PAIR, theirs))
            self.assertEqual(found, (dict_of(PAIR, wanted), [PAIR] if conflict else []), (base, mine, theirs))

    def test_both_sides_exchanged(self):
        for base, mine, theirs, _, _ in CASES:
            base, mine, theirs = dict_of(PAIR, base), dict_of(PAIR, mine), dict_of(PAIR, theirs)
            self.assertEqual(merge(base, theirs, mine), merge(base, mine, theirs))

    def test_two_pairs_at_once(self):
        for first in CASES:
            for second in CASES:
                dicts = [{**dict_of(PAIR, one), **dict_of(OTHER, two)} for one, two in zip(first[:4], second[:4])]
                conflicts = [pair for pair, case in ((PAIR, first), (OTHER, second)) if case[4]]
                self.assertEqual(merge(*dicts[:3]), (dicts[3], conflicts))

    def test_all_pairs_at_once(self):
        base, mine, theirs, wanted = {}, {}, {}, {}
        for number, case in enumerate(CASES):
            for told, text in zip((base, mine, theirs, wanted), case):
                told.update(dict_of(("A", f"m{number}/0"), text))
        conflicts = sorted(("A", f"m{number}/0") for number, case in enumerate(CASES) if case[4])
        self.assertEqual(merge(base, mine, theirs), (wanted, conflicts))

    def test_a_side_that_is_the_base(self):
        base = {PAIR: "a", OTHER: "b"}
        side = {PAIR: "c", ("C", "h/0"): "d"}
        self.assertEqual(merge(base, base, side), (side, []))
        self.assertEqual(merge(base, side, base), (side, []))
        self.assertEqual(merge(base, base, base), (base, []))
        self.assertEqual(merge(base, side, side), (side, []))
        self.assertEqual(merge({}, side, {}), (side, []))
        self.assertEqual(merge(base, {}, base), ({}, []))
        self.assertEqual(merge({}, {}, {}), ({}, []))

    def test_texts_are_compared_as_they_are(self):
        base = {PAIR: "method f() end"}
        found = merge(base, {PAIR: "method f()  end"}, {PAIR: "method f() 1 end"})
        self.assertEqual(found, (base, [PAIR]))
        self.assertEqual(merge(base, {PAIR: ""}, base), ({PAIR: ""}, []))
        self.assertEqual(merge({PAIR: ""}, {}, {PAIR: ""}), ({}, []))
        self.assertEqual(merge({}, {PAIR: ""}, {PAIR: "x"}), ({}, [PAIR]))


class Told(unittest.TestCase):
    def test_conflicts_in_ascending_order(self):
        pairs = [("B", "f/0"), ("A", "g/1"), ("B", "a/2"), ("A", "g/0"), ("Ab", "f/0"), ("A", "f/9")]
        mine, theirs = {pair: "m" for pair in pairs}, {pair: "t" for pair in reversed(pairs)}
        self.assertEqual(merge({}, mine, theirs), ({}, [("A", "f/9"), ("A", "g/0"), ("A", "g/1"), ("Ab", "f/0"),
                                                        ("B", "a/2"), ("B", "f/0")]))

    def test_the_kinds_of_what_is_told(self):
        found = merge({}, {PAIR: "a"}, {PAIR: "b"})
        self.assertIsInstance(found, tuple)
        self.assertIs(type(found[0]), dict)
        self.assertIs(type(found[1]), list)

    def test_the_three_dicts_stay_as_they_were(self):
        base, mine, theirs = {PAIR: "a", OTHER: "b"}, {PAIR: "c"}, {PAIR: "d", ("C", "h/0"): "e"}
        told = repr((base, mine, theirs))
        for _ in range(2):
            result, conflicts = merge(base, mine, theirs)
            self.assertEqual((result, conflicts), ({PAIR: "a", ("C", "h/0"): "e"}, [PAIR]))
            self.assertEqual(repr((base, mine, theirs)), told)
            result.clear()
            conflicts.clear()

    def test_the_result_is_none_of_the_three(self):
        for dicts in (({PAIR: "a"},) * 3, ({}, {}, {PAIR: "a"}), ({}, {PAIR: "a"}, {})):
            result, _ = merge(*dicts)
            result[OTHER] = "x"
            self.assertNotIn(OTHER, {**dicts[0], **dicts[1], **dicts[2]})

    def test_names_and_arguments(self):
        self.assertEqual(str(inspect.signature(merge)), "(base, mine, theirs)")
        self.assertEqual(merge(theirs={}, mine={PAIR: "a"}, base={}), ({PAIR: "a"}, []))


if __name__ == "__main__":
    unittest.main()
