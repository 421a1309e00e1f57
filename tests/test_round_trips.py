"""Point 13: reading a printed form gives the same tree, for every tree that can be read."""

import unittest

from livestead.errors import SourceError
from livestead.printing import print_expression, print_method
from livestead.reading import read_expression, read_method
from tests.cases import brackets
from tests.trees import Maker, count_kinds, methods

A = ("name", "a")
MADE = methods(60)


def same(left, right):
    """Whether two trees are the same, and no 1 of one is a True of the other."""
    return left == right and repr(left) == repr(right)


def bracket_pairs(text):
    """The pairs of brackets in a text without text tokens that stand around an expression."""
    pairs = []
    opened = []
    for k, character in enumerate(text):
        if character == "(":
            opened.append(k)
        elif character == ")":
            start = opened.pop()
            before = text[:start]
            # A name stands directly ahead of the brackets of arguments and parameters only.
            if not before or not before[-1].isalnum():
                pairs.append((start, k))
    return pairs


class RoundTripCase(unittest.TestCase):
    def method(self, tree):
        text = print_method(tree)
        again = read_method(text)
        self.assertTrue(same(again, tree), text)
        self.assertEqual(print_method(again), text)

    def expression(self, tree):
        text = print_expression(tree)
        again = read_expression(text)
        self.assertTrue(same(again, tree), text)
        self.assertEqual(print_expression(again), text)

    def reads_expression(self, text):
        self.expression(read_expression(text))

    def reads_method(self, text):
        self.method(read_method(text))


class Made(RoundTripCase):
    def test_all_kinds_are_made(self):
        found = {}
        count_kinds(tuple(MADE), found)
        for kind in ("plain self name new neg not op and or send super block set give fail eval "
                     "while if try keep method").split():
            self.assertGreater(found[kind], 100, kind)

    def test_methods(self):
        for tree in MADE:
            self.method(tree)

    def test_expressions(self):
        for seed in range(400):
            self.expression(Maker(seed * 31).expression(1, 11))

    def test_some_printed_forms_are_long(self):
        long = [tree for tree in MADE if len(print_method(tree)) > 2000]
        self.assertGreater(len(long), 20)

    def test_no_pair_of_brackets_can_be_left_out(self):
        pairs = 0
        for seed in range(300):
            text = print_expression(Maker(seed).expression(1, 6))
            if "'" in text:
                continue
            for start, end in bracket_pairs(text):
                pairs += 1
                without = text[:start] + text[start + 1:end] + text[end + 1:]
                try:
                    self.assertNotEqual(read_expression(without), read_expression(text), text)
                except SourceError:
                    pass
        self.assertGreater(pairs, 100)


class Deepest(RoundTripCase):
    """Parts of depth 12; each text with one part more would be refused."""

    def deepest(self, read, text, deeper):
        self.assertRaises(SourceError, read, deeper)
        if read is read_method:
            self.reads_method(text)
        else:
            self.reads_expression(text)

    def test_rows(self):
        for sign in ("or", "and", "+", "-", "*", "/"):
            row = "a" + f" {sign} a" * 10
            self.deepest(read_expression, row, row + f" {sign} a")
        self.deepest(read_expression, "a" + ".x()" * 10, "a" + ".x()" * 11)
        self.deepest(read_expression, "-" * 10 + "a", "-" * 11 + "a")
        self.deepest(read_expression, "not " * 10 + "a", "not " * 11 + "a")

    def test_needed_brackets(self):
        for sign in ("or", "and", "=", "<", "+", "-", "*", "/"):
            text = f"a {sign} (" * 4 + f"a {sign} -a" + ")" * 4
            self.deepest(read_expression, text, text.replace("-a", "--a"))
            self.assertEqual(print_expression(read_expression(text)), text)
        for text in ("(-" * 3 + "-a" + ").x()" * 3, "-(not " * 3 + "-a" + ")" * 3):
            self.deepest(read_expression, text, text.replace("-a", "--a"))
            self.assertEqual(print_expression(read_expression(text)), text)

    def test_needless_brackets(self):
        self.deepest(read_expression, brackets(10, "a"), brackets(11, "a"))
        self.assertEqual(print_expression(read_expression(brackets(10, "a"))), "a")
        text = "(((a * b)) + (c)) + ((1))"
        self.assertEqual(print_expression(read_expression(text)), "a * b + c + 1")
        self.reads_expression(text)

    def test_arguments_and_blocks(self):
        self.deepest(read_expression, "a.x(" * 10 + "b" + ")" * 10, "a.x(" * 11 + "b" + ")" * 11)
        self.deepest(read_expression, "{" * 5 + "a" + "}" * 5, "{" * 6 + "a" + "}" * 6)
        self.deepest(read_expression, "{a | " * 6 + "}" * 6, "{a | " * 7 + "}" * 7)

    def test_statements(self):
        for head, end in (("while a do ", " end"), ("if a then ", " end"),
                          ("if a then else ", " end"), ("try ", " catch x then end"),
                          ("try catch x then ", " end"), ("keep ", " always end"),
                          ("keep always ", " end")):
            text = "method f() " + head * 10 + "x := a" + end * 10 + " end"
            deeper = "method f() " + head * 12 + "x := a" + end * 12 + " end"
            self.deepest(read_method, text, deeper)
            self.assertEqual(print_method(read_method(text)), text)

    def test_brackets_in_statements(self):
        text = "method f() " + "while a do " * 7 + "give -(a + b)" + " end" * 7 + " end"
        self.assertEqual(print_method(read_method(text)), text)
        self.deepest(read_method, text, text.replace("a +", "-a +"))


class Long(RoundTripCase):
    def test_a_printed_form_longer_than_its_source(self):
        source = "method f()" + ";".join(["a+b*c"] * 331) + " end"
        self.assertLessEqual(len(source), 2000)
        tree = read_method(source)
        self.assertGreater(len(print_method(tree)), 3000)
        self.method(tree)

    def test_a_printed_expression_longer_than_its_source(self):
        source = "{" + ";".join(["a<=b"] * 399) + "}"
        self.assertLessEqual(len(source), 2000)
        tree = read_expression(source)
        self.assertGreater(len(print_expression(tree)), 2000)
        self.expression(tree)

    def test_much_longer(self):
        text = "x" * 200
        row = tuple(("eval", ("plain", text)) for _ in range(100))
        printed = print_method(("method", "f", (), (), row))
        self.assertGreater(len(printed), 20000)
        self.method(("method", "f", (), (), row))

    def test_longest_names_and_numbers(self):
        name = "a" * 20
        self.expression(("send", ("name", name), name, (("new", "A" * 20),)))
        self.expression(("plain", 1000000000))
        self.expression(("plain", "x" * 200))


class Sources(RoundTripCase):
    """Sources that are written otherwise than they are printed."""

    def test_spaces_and_brackets(self):
        for text in ("1+2*a", "( 1 + 2 )*a", "a . x ( b,c )", "{ a|b }", "{a,b|}", "- - a", "-(-(a))",
                     "not(a=b)", "(not a)=b", "(a and b)and c", "a and(b and c)", "'  '.x( )"):
            self.reads_expression(text)

    def test_bodies(self):
        for text in ("if a then else end", "if a then b else end", "while(a)do end",
                     "try a catch b then end", "keep(a)always end", "x:=y;give(x)"):
            self.reads_method(f"method f(){text} end")

    def test_same_form_for_the_same_tree(self):
        forms = ["a+b*c", "a+(b*c)", "(a)+((b)*(c))", "( a + ( b * c ) )"]
        self.assertEqual({print_expression(read_expression(form)) for form in forms},
                         {"a + b * c"})


if __name__ == "__main__":
    unittest.main()
