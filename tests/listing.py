"""What the tests of codes have in common: instructions that are written as a text."""

import unittest

from livestead.codes import compile_method
from livestead.reading import read_method

NONE = (("push", None), ("end",))


def listed(text):
    """Instructions from a text: a word and what stands behind it in each line; `F:` is a mark.

    Instructions lead to a mark, which is the number of the instruction behind it, or to a number.
    """
    rows = []
    marks = {"None": None, "True": True, "False": False}
    for line in text.strip().split("\n"):
        if line.endswith(":"):
            marks[line.strip()[:-1]] = len(rows)
        else:
            rows.append(line.split())
    return tuple(row_of(words, marks) for words in rows)


def row_of(words, marks):
    parts = [words[0]]
    for word in words[1:]:
        parts.append(int(word) if word.lstrip("-").isdigit() else marks.get(word, word))
    if parts[0] == "set":
        return ("set", tuple(parts[1:]))
    return tuple(parts)


class CodesCase(unittest.TestCase):
    def method(self, text, places, instructions, blocks=(), **keywords):
        """Whether two codes are the same, with no 1 in the place of a True."""
        code = compile_method(read_method(text), **keywords)
        self.assertEqual(repr(code), repr(("code", places, instructions, blocks)), text)

    def body(self, text, lines, **keywords):
        """The instructions of statements in a method with the places a, b, c; all ends as usual."""
        self.method(f"method f(a, b) var c; {text} end", 3, listed(lines) + NONE, **keywords)

    def gives(self, text, lines, **keywords):
        """The instructions of an expression that stands alone in a body."""
        self.body(text, lines + "\npop", **keywords)
