"""Trees of methods and expressions, read from source texts."""

from livestead.errors import NameTwice, SourceError
from livestead.tokens import tokenize

DEEPEST = 12
MOST_PARAMETERS = 8
MOST_VARIABLES = 8
MOST_BLOCK_PARAMETERS = 4
MOST_ARGUMENTS = 8

# The levels of expressions, from the loosest to the tightest.
LOOSEST = 1
COMPARING = 4
TIGHTEST = 9
LEVELS_BEHIND = {
    "or": 1, "and": 2, "=": 4, "<": 4, "<=": 4, "+": 5, "-": 5, "*": 6, "/": 6, ".": 8,
}
LEVELS_AHEAD = {"not": 3, "-": 7}
TREES_AHEAD = {"not": "not", "-": "neg"}
PLAIN = {"none": None, "true": True, "false": False}


def read_method(text):
    """The tree of the method that a text tells."""
    reader = Reader(text)
    tree = reader.method()
    reader.finish()
    return tree


def read_expression(text):
    """The tree of the expression that a text tells, as it would stand by itself in a method's body."""
    reader = Reader(text)
    tree = reader.expression(LOOSEST, 2)
    reader.finish()
    return tree


def _can_go_on(sign, place, left):
    """Whether a sign continues an expression of the level left in a place that asks for a level.

    Only the signs that compare ask for something tighter on their left side: whatever is looser
    than another sign has taken this sign into its own right side.
    """
    level = LEVELS_BEHIND.get(sign, 0)
    return level >= place and (level != COMPARING or left > COMPARING)


class Reader:
    """Reads the tokens of one text from left to right and stops at the first that cannot stand.

    It notes how deep each part is that has begun, in the order of the text: a sign makes all parts
    of what stands left of it one deeper, brackets too, which leave no trace in the tree.
    """

    def __init__(self, text):
        # The end of the text is a token of its own, so that there is always one to look at.
        self.tokens = tokenize(text) + [("nothing", "", len(text))]
        self.now = 0
        self.depths = []
        self.twice = None

    def finish(self):
        """Refuses what stands behind the end, and then names that occur twice."""
        self.take("nothing")
        if self.twice is not None:
            raise NameTwice(self.twice)

    def refuse(self):
        raise SourceError(self.tokens[self.now][2])

    def fixed(self, ahead=0):
        """The word or mark that stands next (or some tokens ahead); for all else an empty string."""
        kind, value, _ = self.tokens[self.now + ahead]
        if kind == "word" or kind == "mark":
            return value
        return ""

    def accept(self, wanted):
        """Takes a word or mark if it stands next, and tells whether it did."""
        if self.fixed() != wanted:
            return False
        self.now += 1
        return True

    def expect(self, wanted):
        if not self.accept(wanted):
            self.refuse()

    def take(self, wanted):
        """Takes a token of a kind, and returns its value."""
        kind, value, _ = self.tokens[self.now]
        if kind != wanted:
            self.refuse()
        self.now += 1
        return value

    def name_stands_before(self, marks):
        """Whether a name stands next, and one of some marks behind it."""
        return self.tokens[self.now][0] == "name" and self.fixed(1) in marks

    def names(self, most):
        """Reads one name or more, with commas between them."""
        found = [self.take("name")]
        while self.accept(","):
            if len(found) == most:
                self.refuse()
            found.append(self.take("name"))
        return tuple(found)

    def note_twice(self, names):
        """Keeps the first name of the text that occurs twice where it may occur once."""
        for k, name in enumerate(names):
            if self.twice is None and name in names[:k]:
                self.twice = name

    def begin(self, depth):
        """Notes a part that begins with the next token."""
        if depth > DEEPEST:
            self.refuse()
        self.depths.append(depth)

    def deepen(self, first):
        """Makes the parts from the first on one deeper, for the sign that stands next."""
        # The sign's own part is not noted: it is never deeper than what stands left of the sign.
        parts = [depth + 1 for depth in self.depths[first:]]
        if max(parts) > DEEPEST:
            self.refuse()
        self.depths[first:] = parts

    def method(self):
        self.expect("method")
        name = self.take("name")
        self.expect("(")
        params = ()
        if self.fixed() != ")":
            params = self.names(MOST_PARAMETERS)
        self.expect(")")
        variables = ()
        if self.accept("var"):
            variables = self.names(MOST_VARIABLES)
            self.expect(";")
        self.note_twice(params + variables)
        body = self.body(("end",), 1)
        self.expect("end")
        return ("method", name, params, variables, body)

    def body(self, ends, depth):
        """Reads statements up to one of the words or marks that end them, which is not taken."""
        if self.fixed() in ends:
            return ()
        statements = [self.statement(depth)]
        while self.accept(";"):
            statements.append(self.statement(depth))
        return tuple(statements)

    def statement(self, depth):
        self.begin(depth)
        word = self.fixed()
        if word == "give" or word == "fail":
            self.expect(word)
            return (word, self.expression(LOOSEST, depth + 1))
        if word == "while":
            return self.while_statement(depth)
        if word == "if":
            return self.if_statement(depth)
        if word == "try":
            return self.try_statement(depth)
        if word == "keep":
            return self.keep_statement(depth)
        if self.name_stands_before((":=",)):
            return self.set_statement(depth)
        return ("eval", self.expression(LOOSEST, depth + 1))

    def set_statement(self, depth):
        name = self.take("name")
        self.expect(":=")
        return ("set", name, self.expression(LOOSEST, depth + 1))

    def while_statement(self, depth):
        self.expect("while")
        test = self.expression(LOOSEST, depth + 1)
        self.expect("do")
        body = self.body(("end",), depth + 1)
        self.expect("end")
        return ("while", test, body)

    def if_statement(self, depth):
        self.expect("if")
        test = self.expression(LOOSEST, depth + 1)
        self.expect("then")
        body = self.body(("else", "end"), depth + 1)
        other = ()
        if self.accept("else"):
            other = self.body(("end",), depth + 1)
        self.expect("end")
        return ("if", test, body, other)

    def try_statement(self, depth):
        self.expect("try")
        body = self.body(("catch",), depth + 1)
        self.expect("catch")
        name = self.take("name")
        self.expect("then")
        handler = self.body(("end",), depth + 1)
        self.expect("end")
        return ("try", body, name, handler)

    def keep_statement(self, depth):
        self.expect("keep")
        body = self.body(("always",), depth + 1)
        self.expect("always")
        last = self.body(("end",), depth + 1)
        self.expect("end")
        return ("keep", body, last)

    def expression(self, place, depth):
        """Reads an expression of the level that its place asks for, or of a tighter one."""
        first = len(self.depths)
        self.begin(depth)
        tree, level = self.opening(place, depth)
        sign = self.fixed()
        while _can_go_on(sign, place, level):
            self.deepen(first)
            self.expect(sign)
            level = LEVELS_BEHIND[sign]
            if sign == ".":
                name = self.take("name")
                tree = ("send", tree, name, self.arguments(depth + 1))
            elif sign == "and" or sign == "or":
                tree = (sign, tree, self.expression(level + 1, depth + 1))
            else:
                tree = ("op", sign, tree, self.expression(level + 1, depth + 1))
            sign = self.fixed()
        return tree

    def opening(self, place, depth):
        """Reads what stands ahead of the first sign; returns its tree and its level."""
        sign = self.fixed()
        level = LEVELS_AHEAD.get(sign, 0)
        if level < place:
            return self.primary(depth), TIGHTEST
        self.expect(sign)
        return (TREES_AHEAD[sign], self.expression(level, depth + 1)), level

    def primary(self, depth):
        kind = self.tokens[self.now][0]
        if kind == "number" or kind == "text":
            return ("plain", self.take(kind))
        if kind == "name":
            return ("name", self.take(kind))
        word = self.fixed()
        if word == "{":
            return self.block(depth)
        if word == "super":
            return self.super_send(depth)
        if self.accept("("):
            tree = self.expression(LOOSEST, depth + 1)
            self.expect(")")
            return tree
        if self.accept("new"):
            return ("new", self.take("class"))
        if self.accept("self"):
            return ("self",)
        if word not in PLAIN:
            self.refuse()
        self.expect(word)
        return ("plain", PLAIN[word])

    def block(self, depth):
        self.expect("{")
        params = ()
        if self.name_stands_before((",", "|")):
            params = self.names(MOST_BLOCK_PARAMETERS)
            self.expect("|")
            self.note_twice(params)
        body = self.body(("}",), depth + 1)
        self.expect("}")
        return ("block", params, body)

    def super_send(self, depth):
        self.expect("super")
        self.expect(".")
        name = self.take("name")
        return ("super", name, self.arguments(depth + 1))

    def arguments(self, depth):
        self.expect("(")
        if self.accept(")"):
            return ()
        found = [self.expression(LOOSEST, depth)]
        while self.accept(","):
            if len(found) == MOST_ARGUMENTS:
                self.refuse()
            found.append(self.expression(LOOSEST, depth))
        self.expect(")")
        return tuple(found)
