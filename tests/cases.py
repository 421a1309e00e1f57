"""What the tests of the reading have in common."""

import unittest

from livestead.errors import NameTwice, SourceError
from livestead.reading import read_expression, read_method
from livestead.tokens import tokenize

WORDS = (
    "method var end give fail if then else while do try catch keep always none true false self "
    "super new not and or"
).split()
MARKS = ":= <= ( ) { } , ; . | = < + - * /".split()


class ReadingCase(unittest.TestCase):
    """A text with a `^`, which no source may contain, is refused at the place of the `^`."""

    def refused(self, read, marked):
        self.assertEqual(marked.count("^"), 1, marked)
        self.refused_at(read, marked.replace("^", ""), marked.index("^"))

    def refused_at(self, read, text, at):
        with self.assertRaises(SourceError, msg=text) as caught:
            read(text)
        self.assertEqual(caught.exception.at, at, text)

    def no_tokens(self, marked):
        self.refused(tokenize, marked)

    def no_expression(self, marked):
        self.refused(read_expression, marked)

    def no_method(self, marked):
        self.refused(read_method, marked)

    def no_body(self, marked):
        """The text stands behind the head of a method; the method's own end belongs to the text."""
        self.refused(read_method, "method f() " + marked)

    def twice(self, read, text, name):
        with self.assertRaises(NameTwice, msg=text) as caught:
            read(text)
        self.assertEqual(caught.exception.name, name, text)

    def expression(self, text, tree):
        self.assertEqual(read_expression(text), tree, text)

    def statement(self, text, tree):
        """The text stands for one statement, in a method and in a block."""
        self.assertEqual(read_method("method f() " + text + " end"),
                         ("method", "f", (), (), (tree,)), text)
        self.assertEqual(read_expression("{" + text + "}"), ("block", (), (tree,)), text)


def name(word):
    return ("name", word)


def run(word):
    """The statement that is nothing but a name."""
    return ("eval", ("name", word))


def brackets(many, inner):
    return "(" * many + inner + ")" * many
