"""Trees of all kinds, made by the numbers of a small generator, which are always the same."""

# For each sign its level, and the levels that it asks for on its left and on its right.
SIGNS = {"or": (1, 1, 2), "and": (2, 2, 3), "=": (4, 5, 5), "<": (4, 5, 5), "<=": (4, 5, 5),
         "+": (5, 5, 6), "-": (5, 5, 6), "*": (6, 6, 7), "/": (6, 6, 7)}
AHEAD = {"not": 3, "neg": 7}
NAMES = ("a", "b", "c", "d", "e", "f", "g", "x", "y", "aLongName", "slot", "theLongestName123456")
PLAIN = (0, 1, 5, 1000000000, "", "t", "(a", "} end", "x" * 200, None, True, False)
STATEMENTS = ("set", "give", "fail", "eval", "eval", "while", "if", "try", "keep")
EXPRESSIONS = ("leaf", "sign", "sign", "sign", "ahead", "send", "super", "block")


class Maker:
    """Makes trees that can be read: room is how many depths there are for a part and its parts.

    An expression of a level looser than its place asks for needs one depth more, for brackets.
    """

    def __init__(self, seed):
        self.number = seed

    def below(self, most):
        self.number = (self.number * 1103515245 + 12345) % 2 ** 31
        return self.number // 65536 % most

    def one_of(self, parts):
        return parts[self.below(len(parts))]

    def some_of(self, names, most):
        return tuple([name for name in names if self.below(3) == 0][:most])

    def method(self, room):
        params = self.some_of(NAMES[::2], 8)
        variables = self.some_of(NAMES[1::2], 8)
        return ("method", self.one_of(NAMES), params, variables, self.body(room))

    def body(self, room):
        # A statement may need a part: only where there is room for both, statements are made.
        if room < 2:
            return ()
        return tuple(self.statement(room) for _ in range(self.below(4)))

    def statement(self, room):
        inner = room - 1
        kind = self.one_of(STATEMENTS)
        if kind == "set":
            return ("set", self.one_of(NAMES), self.expression(1, inner))
        if kind == "while":
            return ("while", self.expression(1, inner), self.body(inner))
        if kind == "if":
            return ("if", self.expression(1, inner), self.body(inner), self.body(inner))
        if kind == "try":
            return ("try", self.body(inner), self.one_of(NAMES), self.body(inner))
        if kind == "keep":
            return ("keep", self.body(inner), self.body(inner))
        return (kind, self.expression(1, inner))

    def expression(self, place, room):
        kind = self.one_of(EXPRESSIONS)
        if kind == "sign" and room > 2:
            return self.with_sign(place, room)
        if kind == "ahead" and room > 2:
            word = self.one_of(("not", "neg"))
            return (word, self.expression(AHEAD[word], room - 1 - (AHEAD[word] < place)))
        if kind == "send" and room > 1:
            receiver = self.expression(8, room - 1)
            return ("send", receiver, self.one_of(NAMES), self.arguments(room - 1))
        if kind == "super" and room > 1:
            return ("super", self.one_of(NAMES), self.arguments(room - 1))
        if kind == "block":
            return ("block", self.some_of(NAMES, 4), self.body(room - 1))
        return self.leaf()

    def with_sign(self, place, room):
        sign = self.one_of(sorted(SIGNS))
        level, left, right = SIGNS[sign]
        inner = room - 1 - (level < place)
        parts = (self.expression(left, inner), self.expression(right, inner))
        if sign in ("and", "or"):
            return (sign, *parts)
        return ("op", sign, *parts)

    def arguments(self, room):
        return tuple(self.expression(1, room) for _ in range(self.below(4)))

    def leaf(self):
        kind = self.below(4)
        if kind == 0:
            return ("plain", self.one_of(PLAIN))
        if kind == 1:
            return self.one_of((("self",), ("new", "Foo"), ("block", (), ()), ("super", "x", ())))
        return ("name", self.one_of(NAMES))


def methods(many, rooms=(4, 6, 8, 10, 12)):
    """Methods for each of the numbers of depths that their bodies may have."""
    return [Maker(seed * 7919 + room).method(room) for room in rooms for seed in range(many)]


def count_kinds(tree, found):
    """Counts the first words of a tree and of all its parts in a dict."""
    if isinstance(tree, tuple):
        if tree and isinstance(tree[0], str):
            found[tree[0]] = found.get(tree[0], 0) + 1
        for part in tree:
            count_kinds(part, found)
