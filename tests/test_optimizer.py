"""Point 19: the six rules of the optimizer, one by one and together."""

import unittest

from livestead.codes import compile_method
from livestead.optimizing import optimize
from livestead.reading import read_method
from tests.listing import listed
from tests.one_by_one import one_by_one
from tests.trees import methods


class OptimizerCase(unittest.TestCase):
    def becomes(self, text, wanted):
        """The rows of a code, in the notation of the listings, become others; twice as well."""
        code = ("code", 3, listed(text), ())
        found = optimize(code)
        self.assertEqual(repr(found), repr(("code", 3, listed(wanted), ())), text)
        self.assertEqual(repr(optimize(found)), repr(found), text)
        self.assertEqual(repr(one_by_one(code)), repr(found), text)

    def stays(self, text):
        self.becomes(text, text)

    def body(self, text, wanted):
        """The instructions of a body in a method with the places a, b, c."""
        code = compile_method(read_method(f"method f(a, b) var c; {text} end"))
        self.assertEqual(repr(optimize(code)), repr(("code", 3, listed(wanted), ())), text)


class Unreachable(OptimizerCase):
    def test_behind_what_does_not_go_on(self):
        for row in ("end", "give", "fail"):
            self.becomes(f"self\n{row}\npush 1\nend", f"self\n{row}")
        self.becomes("jump E\npush 1\npop\nE:\nself\nend", "self\nend")
        self.becomes("W:\nself\nsend x 0\nunless W\njump W\nself\nend",
                     "W:\nself\nsend x 0\nunless W\njump W")

    def test_several_and_what_they_lead_to(self):
        self.becomes("self\nend\nA:\nunless B\njump A\nB:\npush 1\nend", "self\nend")

    def test_what_follows_other_instructions_stays(self):
        self.stays("slot s\npop\nself\nend")
        self.stays("local 0 0\nunless E\nslot s\ngive\nE:\nself\nend")

    def test_reached_by_a_try_or_a_keep_alone(self):
        self.stays("try H\nself\ngive\nH:\nset local 0 0\nself\nend")
        self.stays("keep A\nself\nfail\nA:\nresume\nself\nend")

    def test_reached_by_an_unless_or_a_jump_alone(self):
        self.stays("slot s\nunless F\nself\nend\nF:\nslot t\nend")
        self.stays("jump B\nA:\nslot s\nend\nB:\nslot t\nunless A\nself\nend")

    def test_marks_that_cannot_be_reached_lead_nowhere(self):
        self.becomes("self\nend\ntry H\ndone\nH:\nset local 0 0\nself\nend", "self\nend")

    def test_leading_instructions_follow(self):
        self.becomes("slot s\nunless E\nslot t\ngive\npush 1\npop\nE:\nself\nend",
                     "slot s\nunless E\nslot t\ngive\nE:\nself\nend")


class ToJumps(OptimizerCase):
    def test_an_unless_that_leads_to_a_jump(self):
        self.becomes("W:\nslot s\nunless J\nslot t\npop\nJ:\njump W",
                     "W:\nslot s\nunless W\nslot t\npop\njump W")

    def test_a_jump_that_leads_to_a_jump(self):
        self.becomes("slot s\nunless F\nslot t\npop\njump J\nF:\nslot u\npop\nJ:\njump E\n"
                     "H:\nself\npop\nE:\nself\nend",
                     "slot s\nunless F\nslot t\npop\njump E\nF:\nslot u\npop\nE:\nself\nend")

    def test_along_several_jumps(self):
        self.becomes("slot s\nunless A\nslot t\nend\nA:\njump B\nself\nB:\njump C\nself\nC:\n"
                     "slot u\nend", "slot s\nunless C\nslot t\nend\nC:\nslot u\nend")

    def test_a_try_or_a_keep_that_leads_to_a_jump_stays(self):
        self.stays("try H\nself\ngive\nH:\njump K\nK2:\nslot s\ngive\nK:\nslot t\nunless K2\nend")
        self.stays("keep A\nslot s\npop\nalways\nresume\nself\nend\nA:\njump A2\nB:\nslot t\npop\n"
                   "resume\nself\nend\nA2:\nslot u\nunless B\nresume\nself\nend")

    def test_jumps_in_a_circle(self):
        self.stays("A:\njump A")
        self.stays("slot s\nunless A\nself\nend\nA:\njump A")
        self.becomes("A:\njump B\nB:\njump A", "A:\njump A")
        self.stays("try A\nslot s\nunless B\nself\nend\nA:\nslot t\nunless B\nself\nend\nB:\njump B")

    def test_a_circle_of_two_jumps(self):
        # From the circle of the two nothing is led away; the second is led to by the first alone.
        self.stays("try B\nslot s\nunless A\nself\ngive\nA:\njump C\nB:\nslot t\npop\nC:\njump A")

    def test_ahead_of_the_removal_of_a_jump_to_the_next(self):
        # The first jump leads to the next instruction, but this is a jump that leads further on.
        self.becomes("slot s\npop\njump H\nH:\njump E\nK:\nslot t\ngive\nE:\ntry H\nslot u\nunless K\n"
                     "self\nend",
                     "slot s\npop\njump E\nH:\njump E\nK:\nslot t\ngive\nE:\ntry H\nslot u\nunless K\n"
                     "self\nend")


class NextJumps(OptimizerCase):
    def test_a_jump_to_the_next(self):
        self.becomes("slot s\npop\njump N\nN:\nself\nend", "slot s\npop\nself\nend")
        self.becomes("jump N\nN:\nself\nend", "self\nend")

    def test_a_jump_further_on_or_back_stays(self):
        self.stays("slot s\nunless F\njump E\nF:\nslot t\npop\nE:\nself\nend")
        self.stays("W:\nslot s\npop\njump W")

    def test_what_led_to_the_jump_leads_behind_it(self):
        self.becomes("try J\nslot s\ngive\nJ:\njump N\nN:\nset local 0 0\nself\nend",
                     "try N\nslot s\ngive\nN:\nset local 0 0\nself\nend")

    def test_an_unless_to_the_next_stays(self):
        self.stays("slot s\nunless N\nN:\nself\nend")

    def test_one_jump_behind_the_other(self):
        self.becomes("try B\nslot s\npop\njump C\nB:\njump C\nC:\nself\nend",
                     "try C\nslot s\npop\nC:\nself\nend")


class Folding(OptimizerCase):
    def test_one_push(self):
        self.becomes("push 5\nneg\nend", "push -5\nend")
        self.becomes("push True\nnot\nend", "push False\nend")
        self.becomes("push False\nnot\nend", "push True\nend")
        self.becomes("push 5\nneg\nneg\nend", "push 5\nend")

    def test_two_pushes(self):
        self.becomes("push 7\npush 2\nop +\nend", "push 9\nend")
        self.becomes("push 7\npush 2\nop /\nend", "push 3\nend")
        self.becomes("push 7\npush 2\nop *\nend", "push 14\nend")
        self.becomes("push 7\npush 2\nop <\nend", "push False\nend")
        self.becomes("push a\npush b\nop +\nend", "push ab\nend")
        self.becomes("push a\npush b\nop <=\nend", "push True\nend")
        self.becomes("push 1\npush True\nop =\nend", "push False\nend")
        self.becomes("push None\npush None\nop =\nend", "push True\nend")
        self.becomes("push 2\npush 7\nop -\nend", "push -5\nend")

    def test_results_that_are_failures(self):
        for rows in ("push a\nneg", "push None\nneg", "push True\nneg", "push 1\nnot", "push a\nnot",
                     "push 1\npush 0\nop /", "push 1\npush a\nop +", "push True\npush 1\nop +",
                     "push None\npush None\nop <", "push 1000000000\npush 1\nop +",
                     "push 1000000000\npush 2\nop *", f"push {'x' * 200}\npush y\nop +"):
            self.stays(f"{rows}\nend")

    def test_the_greatest_results(self):
        self.becomes("push 999999999\npush 1\nop +\nend", "push 1000000000\nend")
        self.becomes(f"push {'x' * 199}\npush y\nop +\nend", f"push {'x' * 199}y\nend")

    def test_a_failure_stands_in_the_way(self):
        self.stays("push 1\npush a\nneg\nop +\nend")
        self.stays("push 1\npush 0\nop /\nneg\nend")

    def test_results_fold_on(self):
        self.becomes("push 1\npush 2\nop +\npush 3\npush 4\nop *\nop *\nend", "push 36\nend")
        self.becomes("push 1\npush 2\npush 3\nop +\nop +\nend", "push 6\nend")
        self.becomes("push 1\npush 2\nop =\nnot\nend", "push True\nend")

    def test_only_constants(self):
        self.stays("local 0 0\nneg\nend")
        self.stays("push 1\nlocal 0 0\nop +\nend")
        self.stays("local 0 0\npush 1\nop +\nend")
        self.stays("push 1\npush 2\nlocal 0 0\nop +\nop +\nend")

    def test_a_target_in_between(self):
        self.stays("slot s\nunless A\npush 1\njump B\nA:\nslot t\nB:\nneg\nend")
        self.stays("slot s\nslot t\nunless A\npush 1\njump B\nA:\npush 2\nB:\nop +\nend")
        self.stays("push 1\nA:\npush 2\nop =\nunless E\npush 3\njump A\nE:\nself\nend")

    def test_the_first_may_be_a_target(self):
        self.becomes("slot s\nunless A\nslot t\npop\nA:\npush 1\nneg\nneg\nend",
                     "slot s\nunless A\nslot t\npop\nA:\npush 1\nend")
        self.becomes("slot s\nunless A\nslot t\npop\nA:\npush 1\npush 2\nop +\nend",
                     "slot s\nunless A\nslot t\npop\nA:\npush 3\nend")

    def test_behind_a_target_a_push_still_folds(self):
        self.becomes("slot s\npush 1\nunless A\npush 1\njump B\nA:\npush 3\nB:\npush 2\npush 4\nop +\n"
                     "op +\nop +\nend",
                     "slot s\npush 1\nunless A\npush 1\njump B\nA:\npush 3\nB:\npush 6\nop +\nop +\nend")


class Decided(OptimizerCase):
    def test_push_true(self):
        self.becomes("slot s\npop\npush True\nunless E\nslot t\npop\nE:\nself\nend",
                     "slot s\npop\nslot t\npop\nself\nend")

    def test_push_false(self):
        self.becomes("push False\nunless E\nslot t\npop\nE:\nself\nend", "self\nend")
        self.becomes("slot s\nunless A\npush False\nunless E\nA:\nslot t\npop\nE:\nself\nend",
                     "slot s\nunless A\njump E\nA:\nslot t\npop\nE:\nself\nend")

    def test_other_pushes_stay(self):
        for value in ("1", "0", "None", "a"):
            self.stays(f"push {value}\nunless E\nslot t\npop\nE:\nself\nend")

    def test_an_unless_that_is_a_target_stays(self):
        for value in ("True", "False"):
            self.stays(f"slot s\nunless A\npush {value}\njump U\nA:\nslot t\nU:\nunless E\nslot u\npop\n"
                       "E:\nself\nend")
        self.stays("slot s\nunless A\nslot t\njump U\nA:\npush True\nU:\nunless E\nslot u\npop\nE:\n"
                   "self\nend")

    def test_a_push_that_is_a_target(self):
        self.becomes("slot s\nunless A\nslot t\npop\nA:\npush True\nunless E\nslot u\npop\nE:\nself\nend",
                     "slot s\nunless A\nslot t\npop\nA:\nslot u\npop\nself\nend")
        self.becomes("slot s\nunless A\nslot t\npop\nA:\npush False\nunless E\nslot u\npop\nE:\nself\n"
                     "end", "slot s\nunless E\nslot t\npop\nE:\nself\nend")

    def test_a_loop_for_ever(self):
        self.becomes("W:\npush True\nunless E\nslot s\npop\njump W\nE:\nself\nend",
                     "W:\nslot s\npop\njump W")
        self.becomes("W:\npush True\nunless E\njump W\nE:\nself\nend", "W:\njump W")


class ThrownAway(OptimizerCase):
    def test_what_only_puts(self):
        for row in ("push 1", "push True", "self", "local 0 0", "local 1 0"):
            self.becomes(f"slot s\npop\n{row}\npop\nself\nend", "slot s\npop\nself\nend")

    def test_what_does_more_stays(self):
        for row in ("slot s", "global g", "new Foo", "block 0", "super Foo x 0", "self\nsend x 0",
                    "local 0 0\nneg", "self\nnot", "self\nself\nop ="):
            code = ("code", 0, listed(f"{row}\npop\nself\nend"), (("code", 0, listed("self\nend"), ()),))
            self.assertEqual(optimize(code), code, row)

    def test_a_pop_that_is_a_target_stays(self):
        self.stays("slot s\nunless A\nslot t\njump P\nA:\npush 1\nP:\npop\nself\nend")

    def test_what_led_to_it_leads_behind_it(self):
        self.becomes("slot s\nunless A\nslot t\npop\nA:\npush 1\npop\nself\nend",
                     "slot s\nunless A\nslot t\npop\nA:\nself\nend")

    def test_one_within_the_other(self):
        self.becomes("self\nlocal 0 0\npush 1\npop\npop\npop\nslot s\nend", "slot s\nend")
        self.becomes("push 1\nself\npop\nneg\nneg\nend", "push 1\nend")

    def test_it_makes_a_jump_lead_to_a_jump(self):
        self.becomes("W:\nslot s\nunless A\nslot t\npop\nA:\nself\npop\njump W",
                     "W:\nslot s\nunless W\nslot t\npop\njump W")

    def test_where_rules_2_and_3_meet(self):
        # The place of the first pair decides: once it is gone the jump leads to what is behind it.
        text = ("try Y\nslot s\npop\njump X\nY:\npush 1\npop\nX:\npush 2\npop\nJ:\njump Q\nR:\nself\nend\n"
                "Q:\nslot t\nunless R\nself\nend")
        self.becomes(text, "try Y\nslot s\npop\nY:\njump Q\nR:\nself\nend\nQ:\nslot t\nunless R\n"
                           "self\nend")


class Whole(OptimizerCase):
    def test_bodies(self):
        self.body("1 + 2 * 3; give -5", "push -5\ngive")
        self.body("if true then a.x() else b.x() end",
                  "local 0 0\nsend x 0\npop\npush None\nend")
        self.body("if false then a.x() else b.x() end",
                  "local 0 1\nsend x 0\npop\npush None\nend")
        self.body("while 1 = 2 do a.x() end", "push None\nend")
        self.body("while true do a.x() end", "W:\nlocal 0 0\nsend x 0\npop\njump W")
        self.body("give true and not false", "push True\ngive")
        self.body("give 1 < 2 or a", "push True\ngive")
        self.body("a; self; 'x'; none", "push None\nend")
        self.body("if a then b.x(); give 1 else give 2 end; c.x()",
                  "local 0 0\nunless F\nlocal 0 1\nsend x 0\npop\npush 1\ngive\nF:\npush 2\ngive")

    def test_a_truth_that_is_asked_for_at_once(self):
        self.body("if a and b then c.x() end",
                  "local 0 0\nunless F\nlocal 0 1\nunless F\npush True\njump U\nF:\npush False\nU:\n"
                  "unless E\nlocal 0 2\nsend x 0\npop\nE:\npush None\nend")

    def test_blocks(self):
        code = compile_method(read_method("method f() if false then {1 + 2; 4} end; {give 5; {-1}} end"))
        self.assertEqual(optimize(code), (
            "code", 0, (("block", 1), ("pop",), ("push", None), ("end",)),
            (("code", 0, (("push", 4), ("end",)), ()),
             ("code", 0, (("push", 5), ("give",)), (("code", 0, (("push", -1), ("end",)), ()),)))))

    def test_the_argument_is_not_changed(self):
        code = compile_method(read_method("method f(a) while 1 < 2 do {1 + 1} end end"))
        told = repr(code)
        optimize(code)
        self.assertEqual(repr(code), told)

    def test_made_methods(self):
        for tree in methods(30, (5, 6, 7, 8)):
            code = compile_method(tree, owner="Foo", slots=("slot", "x"))
            found = optimize(code)
            self.assertEqual(repr(found), repr(one_by_one(code)))
            self.assertEqual(repr(optimize(found)), repr(found))


class Made(OptimizerCase):
    """Codes of random rows, with jumps everywhere."""

    ROWS = (("push", 1), ("push", 2), ("push", True), ("push", False), ("push", "a"), ("self",),
            ("local", 0, 0), ("pop",), ("pop",), ("op", "+"), ("op", "="), ("neg",), ("not",),
            ("slot", "s"), ("end",), ("give",), ("fail",), ("done",))
    LEADING = ("jump", "jump", "unless", "unless", "try", "keep")

    def below(self, most):
        self.number = (self.number * 1103515245 + 12345) % 2 ** 31
        return self.number // 65536 % most

    def rows(self, many):
        found = []
        for _ in range(many):
            if self.below(5) < 2:
                found.append((self.LEADING[self.below(6)], self.below(many + 1)))
            else:
                found.append(self.ROWS[self.below(len(self.ROWS))])
        return tuple(found + [("end",)])

    def test_all_codes_become_what_the_rules_tell(self):
        self.number = 1
        notes = []
        for turn in range(1500):
            code = ("code", 0, self.rows(2 + turn % 14), ())
            self.assertEqual(repr(optimize(code)), repr(one_by_one(code, notes)), code)
        for number in range(1, 7):
            self.assertGreater(notes.count(number), 20, number)


if __name__ == "__main__":
    unittest.main()
