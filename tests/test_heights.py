"""Point 18: codes are well formed, and how high the stack is ahead of each instruction."""

import unittest

from livestead.codes import compile_method, heights
from livestead.optimizing import optimize
from livestead.reading import read_method
from tests.listing import NONE, listed
from tests.trees import methods

# What an instruction takes away from the stack, and what it puts on it.
EFFECTS = {
    "push": (0, 1), "self": (0, 1), "local": (0, 1), "slot": (0, 1), "global": (0, 1),
    "new": (0, 1), "block": (0, 1), "set": (1, 0), "pop": (1, 0), "neg": (1, 1), "not": (1, 1),
    "op": (2, 1), "jump": (0, 0), "unless": (1, 0), "end": (1, 0), "give": (1, 0), "fail": (1, 0),
    "try": (0, 0), "keep": (0, 0), "done": (0, 0), "always": (0, 0), "resume": (0, 0),
}
LEAVING = ("end", "give", "fail")


def effect_of(instruction):
    if instruction[0] == "send":
        return instruction[2] + 1, 1
    if instruction[0] == "super":
        return instruction[3], 1
    return EFFECTS[instruction[0]]


def all_codes(code):
    found = [code]
    for inner in code[3]:
        found.extend(all_codes(inner))
    return found


class HeightsCase(unittest.TestCase):
    def code(self, text, told, blocks=()):
        """The heights of instructions that are written as in the tests of codes."""
        self.assertEqual(heights(("code", 0, listed(text), blocks)), told, text)

    def body(self, text, told):
        """The heights of a method's body, without the two at the end of the method."""
        code = compile_method(read_method(f"method f(a, b) {text} end"))
        self.assertEqual(heights(code), told + [0, 1], text)

    def well_formed(self, code):
        instructions = code[2]
        found = heights(code)
        self.assertEqual(len(found), len(instructions))
        self.assertEqual(found[0], 0)
        reached = [False] * len(instructions)
        reached[0] = True
        for at, instruction in enumerate(instructions):
            if found[at] is not None:
                self.check_step(instruction, at, found, reached)
        self.assertEqual([height is not None for height in found], reached)

    def check_step(self, instruction, at, found, reached):
        word = instruction[0]
        taken, put = effect_of(instruction)
        self.assertGreaterEqual(found[at], taken, instruction)
        after = found[at] - taken + put
        if word in LEAVING:
            self.assertEqual(after, 0, instruction)
        ways = []
        if word not in LEAVING and word != "jump":
            ways.append((at + 1, after))
        if word in ("jump", "unless", "keep", "try"):
            ways.append((instruction[1], after + (word == "try")))
        for way, height in ways:
            self.assertEqual(found[way], height, (at, instruction))
            reached[way] = True


class Effects(HeightsCase):
    def test_what_puts(self):
        for row in ("push 1", "self", "local 0 0", "slot s", "global g", "new Foo", "block 0"):
            self.code(f"{row}\n{row}\npop\nend", [0, 1, 2, 1])

    def test_what_takes_away(self):
        for row in ("pop", "set local 0 0", "set slot s", "set global g", "op +"):
            self.code(f"push 1\npush 2\n{row}\nend", [0, 1, 2, 1])

    def test_what_replaces(self):
        for row in ("neg", "not"):
            self.code(f"push 1\n{row}\nend", [0, 1, 1])

    def test_sends(self):
        self.code("self\nsend x 0\nend", [0, 1, 1])
        self.code("self\nself\nsend x 1\nend", [0, 1, 2, 1])
        self.code("self\nself\nself\nself\nsend x 3\nend", [0, 1, 2, 3, 4, 1])
        self.code("push 1\nself\nself\nself\nsend x 1\nop +\nop +\nend", [0, 1, 2, 3, 4, 3, 2, 1])

    def test_super(self):
        self.code("super Foo x 0\nend", [0, 1])
        self.code("self\nsuper Foo x 1\nend", [0, 1, 1])
        self.code("self\nself\nself\nsuper Foo x 3\nend", [0, 1, 2, 3, 1])
        self.code("self\nself\nsuper Foo x 1\nop +\nend", [0, 1, 2, 2, 1])

    def test_leaving(self):
        for row in LEAVING:
            self.code(f"push 1\n{row}\npush 2\nend", [0, 1, None, None])


class Ways(HeightsCase):
    def test_jump(self):
        self.code("jump 2\npop\npush 1\nend", [0, None, 0, 1])
        self.code("push 1\njump 3\npop\nend", [0, 1, None, 1])

    def test_unless(self):
        self.code("push True\nunless 4\npush 1\nend\npush 2\nend", [0, 1, 0, 1, 0, 1])
        self.code("push 5\npush True\nunless 4\nend\nneg\nend", [0, 1, 2, 1, 1, 1])

    def test_jumps_backward(self):
        self.code("jump 0", [0])
        self.code("jump 3\npush 1\nend\njump 1", [0, 0, 1, 0])
        self.code("push True\nunless 5\npush 1\npop\njump 0\npush 2\nend", [0, 1, 0, 1, 0, 0, 1])
        self.code("jump 4\npush 1\nend\npush 3\njump 1\nend", [0, 0, 1, None, 0, None])

    def test_try(self):
        self.code("try 4\npush 1\npop\njump 5\npop\npush 2\nend", [0, 0, 1, 0, 1, 0, 1])
        self.code("push 1\ntry 4\ndone\nend\npop\nend", [0, 1, 1, 1, 2, 1])

    def test_keep(self):
        self.code("keep 2\nalways\nresume\npush 1\nend", [0, 0, 0, 0, 1])
        self.code("push 1\nkeep 3\nalways\nresume\nend", [0, 1, 1, 1, 1])

    def test_the_target_of_a_mark_is_reached_by_it_alone(self):
        self.code("try 3\npush 1\ngive\nset local 0 0\npush 2\nend", [0, 0, 1, 1, 0, 1])
        self.code("keep 3\npush 1\ngive\nresume\npush 2\nend", [0, 0, 1, 0, 0, 1])

    def test_marks_and_notes_leave_the_stack_as_it_is(self):
        self.code("keep 4\nalways\npush 1\nend\nresume\npush 1\nend", [0, 0, 0, 1, 0, 0, 1])
        self.code("push 1\nkeep 4\nalways\nend\nresume\nend", [0, 1, 1, 1, 1, 1])
        self.code("push 1\ntry 4\ndone\nend\nop +\nend", [0, 1, 1, 1, 2, 1])

    def test_what_cannot_be_reached(self):
        self.code("push 1\nend\njump 0", [0, 1, None])
        self.code("push 1\ngive\ntry 5\ndone\njump 6\npop\npush 1\nend", [0, 1] + [None] * 6)
        self.code("push 1\nfail\njump 4\nunless 0\npush 1\nend", [0, 1] + [None] * 4)

    def test_blocks_are_not_in_the_list(self):
        inner = ("code", 0, listed("push 1\npush 2\nop +\nend"), ())
        self.code("block 0\nend", [0, 1], (inner,))
        self.assertEqual(heights(inner), [0, 1, 2, 1])

    def test_a_new_list_each_time(self):
        code = compile_method(read_method("method f() end"))
        heights(code).append(5)
        self.assertEqual(heights(code), [0, 1])
        self.assertEqual(code, ("code", 0, NONE, ()))


class Compiled(HeightsCase):
    def test_expressions(self):
        self.body("a + b * 2", [0, 1, 2, 3, 2, 1])
        self.body("a.x(b, -1)", [0, 1, 2, 3, 3, 1])
        self.body("super.x()", [0, 1])
        self.body("super.x(a, b)", [0, 1, 2, 1])
        self.body("a and b", [0, 1, 0, 1, 0, 1, 0, 1])
        self.body("a or b", [0, 1, 0, 1, 0, 1, 0, 1, 0, 1])
        self.body("1 + 2.x(a or b)", [0, 1, 2, 3, 2, 3, 2, 3, 2, 3, 2, 3, 2, 1])

    def test_statements(self):
        self.body("a := b", [0, 1])
        self.body("while a do b end", [0, 1, 0, 1, 0])
        self.body("if a then b else b end", [0, 1, 0, 1, 0, 0, 1])
        self.body("try a catch b then a end", [0, 0, 1, 0, 0, 1, 0, 1])
        self.body("try catch b then end", [0, 0, 0, 1])
        self.body("keep a always b end", [0, 0, 1, 0, 0, 1, 0])

    def test_try_and_keep_in_one_another(self):
        self.body("try keep a always b end catch b then end",
                  [0, 0, 0, 1, 0, 0, 1, 0, 0, 0, 1])
        self.body("keep try catch a then end always try catch b then end end",
                  [0, 0, 0, 0, 1, 0, 0, 0, 0, 1, 0])

    def test_behind_give_and_fail(self):
        code = compile_method(read_method("method f(a) give a; a end"))
        self.assertEqual(heights(code), [0, 1, None, None, None, None])
        code = compile_method(read_method("method f(a) if a then give a else fail a end end"))
        self.assertEqual(heights(code), [0, 1, 0, 1, None, 0, 1, None, None])
        code = compile_method(read_method("method f(a) try give a catch a then end end"))
        self.assertEqual(heights(code), [0, 0, 1, None, None, 1, 0, 1])
        code = compile_method(read_method("method f(a) keep fail a always end end"))
        self.assertEqual(heights(code), [0, 0, 1, None, 0, 0, 1])

    def test_blocks(self):
        code = compile_method(read_method("method f(a) {b | a + b; {a}}; {} end"))
        self.assertEqual(heights(code), [0, 1, 0, 1, 0, 1])
        self.assertEqual(heights(code[3][0]), [0, 1, 2, 1, 0, 1])
        self.assertEqual(heights(code[3][0][3][0]), [0, 1])
        self.assertEqual(heights(code[3][1]), [0, 1])


class WellFormed(HeightsCase):
    def test_made_methods(self):
        codes = 0
        for tree in methods(60):
            for code in all_codes(compile_method(tree, owner="Foo", slots=("slot", "x"))):
                codes += 1
                self.well_formed(code)
        self.assertGreater(codes, 1000)

    def test_optimized_codes(self):
        shorter = 0
        for tree in methods(40):
            plain = all_codes(compile_method(tree, owner="Foo", slots=("slot", "x")))
            optimized = all_codes(optimize(plain[0]))
            self.assertEqual(len(optimized), len(plain))
            for before, after in zip(plain, optimized):
                shorter += len(after[2]) < len(before[2])
                self.well_formed(after)
                self.assertNotIn(None, heights(after))
                self.assertLessEqual(len(after[2]), len(before[2]))
                self.assertEqual(after[1], before[1])
        self.assertGreater(shorter, 100)

    def test_jumps_lead_to_instructions(self):
        for tree in methods(20):
            for code in all_codes(compile_method(tree)):
                for instruction in code[2]:
                    if instruction[0] in ("jump", "unless", "try", "keep"):
                        self.assertEqual(len(instruction), 2)
                        self.assertIn(instruction[1], range(len(code[2])))

    def test_each_block_is_made_once(self):
        for tree in methods(20):
            for code in all_codes(compile_method(tree)):
                made = [row[1] for row in code[2] if row[0] == "block"]
                self.assertEqual(made, list(range(len(code[3]))))


if __name__ == "__main__":
    unittest.main()
