"""What the texts of methods and blocks say, once their names are understood."""

from livestead.names import place_of
from livestead.reading import read_method


class Sense:
    """The body of a method or of a block in it, with places where the names stood.

    A block in the body is told by its number; inner has the parameters and the body of each, as
    they stand in the text. The part is the one of the plain program that tells the same.
    """

    def __init__(self, part, scopes, body):
        self.part = part
        self.scopes = scopes
        self.inner = []
        self.body = self.understood(body)

    def understood(self, tree):
        """A tree, or a tuple of trees, in which names and blocks are understood."""
        kind = tree[:1]
        if kind == ("name",):
            return self.place(tree[1])
        if kind == ("block",):
            self.inner.append(tree[1:])
            return ("block", len(self.inner) - 1)
        parts = [self.understood(part) if isinstance(part, tuple) else part for part in tree]
        if kind == ("set",):
            parts[1] = self.place(tree[1])
        elif kind == ("try",):
            parts[2] = self.place(tree[2])
        return tuple(parts)

    def place(self, name):
        return place_of(name, self.scopes, self.part.source[2])

    def block(self, number):
        """The sense of a block that stands in the body."""
        params, body = self.inner[number]
        return Sense(self.part.parts[number], [params] + self.scopes, body)


def sense_of_method(part):
    """The sense of the whole method of a plain program."""
    _, _, params, variables, body = read_method(part.source[0])
    return Sense(part, [params + variables], body)
