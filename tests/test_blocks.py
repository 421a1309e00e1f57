"""Points 14 to 17: the codes of blocks, their places, their order and their ends."""

import unittest

from livestead.codes import compile_method
from livestead.reading import read_method
from tests.listing import NONE, CodesCase, listed

EMPTY = ("code", 0, NONE, ())


def block(places, lines, blocks=(), ends=()):
    return ("code", places, listed(lines) + ends, blocks)


class BlocksCase(CodesCase):
    def blocks(self, text, *blocks, **keywords):
        """The codes of the blocks in a method with the places a, b, c."""
        code = compile_method(read_method(f"method f(a, b) var c; {text} end"), **keywords)
        self.assertEqual(repr(code[3]), repr(blocks), text)


class Ends(BlocksCase):
    def test_empty(self):
        self.method("method f() {} end", 0, listed("block 0\npop") + NONE, (EMPTY,))
        self.blocks("{x | }", ("code", 1, NONE, ()))

    def test_an_expression_last(self):
        self.blocks("{a}", block(0, "local 1 0\nend"))
        self.blocks("{1; 2}", block(0, "push 1\npop\npush 2\nend"))
        self.blocks("{c := 1; -c}", block(0, "push 1\nset local 1 2\nlocal 1 2\nneg\nend"))
        self.blocks("{a.x()}", block(0, "local 1 0\nsend x 0\nend"))
        self.blocks("{a and b}", block(0, "local 1 0\nunless 6\nlocal 1 1\nunless 6\npush True\n"
                                          "jump 7\npush False\nend"))

    def test_another_statement_last(self):
        self.blocks("{1; c := 2}", block(0, "push 1\npop\npush 2\nset local 1 2", (), NONE))
        self.blocks("{give a}", block(0, "local 1 0\ngive", (), NONE))
        self.blocks("{fail a}", block(0, "local 1 0\nfail", (), NONE))
        self.blocks("{while a do b end}",
                    block(0, "local 1 0\nunless 5\nlocal 1 1\npop\njump 0", (), NONE))
        self.blocks("{if a then b end}", block(0, "local 1 0\nunless 4\nlocal 1 1\npop", (), NONE))
        self.blocks("{if a then else b end}",
                    block(0, "local 1 0\nunless 3\njump 5\nlocal 1 1\npop", (), NONE))
        self.blocks("{try catch c then b end}",
                    block(0, "try 3\ndone\njump 6\nset local 1 2\nlocal 1 1\npop", (), NONE))
        self.blocks("{keep a always b end}",
                    block(0, "keep 4\nlocal 1 0\npop\nalways\nlocal 1 1\npop\nresume", (), NONE))

    def test_an_expression_that_is_not_last(self):
        self.blocks("{a; give b}", block(0, "local 1 0\npop\nlocal 1 1\ngive", (), NONE))

    def test_a_method_never_ends_with_its_last_expression(self):
        self.method("method f() 1 end", 0, listed("push 1\npop") + NONE)

    def test_the_method_goes_on_behind_a_block(self):
        self.method("method f() {1}; 2 end", 0, listed("block 0\npop\npush 2\npop") + NONE,
                    (block(0, "push 1\nend"),))


class Places(BlocksCase):
    def test_parameters(self):
        self.blocks("{x | x}", block(1, "local 0 0\nend"))
        self.blocks("{w, x, y, z | z}", block(4, "local 0 3\nend"))
        self.blocks("{x, y | a + y}", block(2, "local 1 0\nlocal 0 1\nop +\nend"))

    def test_parameters_hide_what_is_around(self):
        self.blocks("{b, a | a}", block(2, "local 0 1\nend"))
        self.blocks("{a | {c | a := c; b}}",
                    block(1, "block 0\nend", (
                        block(1, "local 0 0\nset local 1 0\nlocal 2 1\nend"),)))

    def test_parameters_of_several_blocks(self):
        inner = block(1, "local 0 0\npop\nlocal 1 1\nend")
        middle = block(2, "block 0\npop\nlocal 0 0\npop\nlocal 0 1\nend", (inner,))
        self.blocks("{x, y | {x | x; y}; x; y}; {y | x; y}", middle,
                    block(1, "global x\npop\nlocal 0 0\nend"))

    def test_blocks_without_parameters_count(self):
        self.blocks("{{{a}}}", block(0, "block 0\nend", (
            block(0, "block 0\nend", (block(0, "local 3 0\nend"),)),)))
        self.blocks("{x | {{x}}}", block(1, "block 0\nend", (
            block(0, "block 0\nend", (block(0, "local 2 0\nend"),)),)))

    def test_slots_and_global_names(self):
        self.blocks("{x | s; t; x}", block(1, "slot s\npop\nglobal t\npop\nlocal 0 0\nend"),
                    slots=("s", "x"))
        self.blocks("{s | s := s}; {s := t}", block(1, "local 0 0\nset local 0 0", (), NONE),
                    block(0, "global t\nset slot s", (), NONE), slots=("s",))

    def test_catch_in_blocks(self):
        lines = "try 3\ndone\njump 4\nset "
        for name, place in (("x", "local 0 0"), ("b", "local 1 1"), ("s", "slot s"),
                            ("t", "global t")):
            self.blocks("{x | try catch " + name + " then end}", block(1, lines + place, (), NONE),
                        slots=("s",))

    def test_a_parameter_is_known_in_its_block_only(self):
        self.method("method f() x; {x | x}; x end", 0, listed(
            "global x\npop\nblock 0\npop\nglobal x\npop") + NONE, (block(1, "local 0 0\nend"),))


class Order(BlocksCase):
    def test_numbers_follow_the_text(self):
        one, two, three = [block(0, f"push {k}\nend") for k in (1, 2, 3)]
        self.method("method f() {1}; x := {2}; give {3} end", 0, listed(
            "block 0\npop\nblock 1\nset global x\nblock 2\ngive") + NONE, (one, two, three))
        self.method("method f() {1}.x({2}, {3}) end", 0, listed(
            "block 0\nblock 1\nblock 2\nsend x 2\npop") + NONE, (one, two, three))
        self.method("method f() super.x({1}, {2} = {3}) end", 0, listed(
            "block 0\nblock 1\nblock 2\nop =\nsuper Thing x 2\npop") + NONE, (one, two, three))

    def test_numbers_in_statements(self):
        one, two, three = [block(0, f"push {k}\nend") for k in (1, 2, 3)]
        self.method("method f() if {1} then {2} else {3} end end", 0, listed(
            "block 0\nunless 5\nblock 1\npop\njump 7\nblock 2\npop") + NONE, (one, two, three))
        self.method("method f() while {1} do {2} end; {3} end", 0, listed(
            "block 0\nunless 5\nblock 1\npop\njump 0\nblock 2\npop") + NONE, (one, two, three))
        self.method("method f() try {1} catch x then {2} end; {3} end", 0, listed(
            "try 5\nblock 0\npop\ndone\njump 8\nset global x\nblock 1\npop\nblock 2\npop") + NONE,
                    (one, two, three))
        self.method("method f() keep {1} always {2} end; {3} end", 0, listed(
            "keep 4\nblock 0\npop\nalways\nblock 1\npop\nresume\nblock 2\npop") + NONE,
                    (one, two, three))
        self.method("method f() {1} and {2} or {3} end", 0, listed("""
            block 0
            unless F1
            block 1
            unless F1
            push True
            jump E1
            F1:
            push False
            E1:
            unless R
            push True
            jump E2
            R:
            block 2
            unless F2
            push True
            jump E2
            F2:
            push False
            E2:
            pop""") + NONE, (one, two, three))

    def test_each_block_counts_its_own(self):
        one, two, three = [block(0, f"push {k}\nend") for k in (1, 2, 3)]
        outer = block(0, "block 0\npop\nblock 1\nend", (one, two))
        self.method("method f() {{1}; {2}}; {3} end", 0,
                    listed("block 0\npop\nblock 1\npop") + NONE, (outer, three))

    def test_blocks_of_the_same_text(self):
        one = block(0, "push 1\nend")
        self.method("method f() {1}; {1} end", 0, listed("block 0\npop\nblock 1\npop") + NONE,
                    (one, one))


class Super(BlocksCase):
    def test_the_class_of_the_method(self):
        self.blocks("{super.x(a)}", block(0, "local 1 0\nsuper Thing x 1\nend"))
        self.blocks("{{super.x()}}", block(0, "block 0\nend", (block(0, "super Foo x 0\nend"),)),
                    owner="Foo")

    def test_self(self):
        self.blocks("{self.x()}", block(0, "self\nsend x 0\nend"), owner="Foo")


class Jumps(BlocksCase):
    def test_each_code_counts_from_0(self):
        inner = block(0, "push True\nunless 3\njump 0", (), NONE)
        self.method("method f() 1; {while true do end}; while true do {} end end", 0, listed("""
            push 1
            pop
            block 0
            pop
            W:
            push True
            unless E
            block 1
            pop
            jump W
            E:""") + NONE, (inner, EMPTY))


if __name__ == "__main__":
    unittest.main()
