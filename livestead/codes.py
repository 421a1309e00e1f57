"""Codes: methods compiled to instructions, and how high the stack is ahead of each of these."""

from livestead.names import place_of

# How much higher the stack is behind an instruction than ahead of it, where the word alone tells.
GROWTH = {
    "push": 1, "self": 1, "local": 1, "slot": 1, "global": 1, "new": 1, "block": 1,
    "set": -1, "pop": -1, "neg": 0, "not": 0, "op": -1, "unless": -1,
    "try": 0, "keep": 0, "done": 0, "always": 0, "resume": 0,
}


def compile_method(tree, *, owner="Thing", slots=()):
    """The code of a method that is compiled for a class with some slots."""
    params, variables, body = tree[2:]
    coder = Coder([params + variables], owner, slots)
    coder.body(body)
    coder.end_with_none()
    return coder.code()


def heights(code):
    """The height of the stack ahead of each instruction; None where it cannot be reached."""
    instructions = code[2]
    found = [None] * len(instructions)
    waiting = [(0, 0)]
    while waiting:
        at, height = waiting.pop()
        if found[at] is None:
            found[at] = height
            waiting.extend(_ways_on(instructions[at], at, height))
    return found


def _ways_on(instruction, at, height):
    """The numbers of the instructions that may follow one, each with the height ahead of it."""
    word = instruction[0]
    if word in ("end", "give", "fail"):
        return []
    if word == "jump":
        return [(instruction[1], height)]
    after = height + _growth(instruction)
    ways = [(at + 1, after)]
    if word == "unless" or word == "keep":
        ways.append((instruction[1], after))
    if word == "try":
        # A try goes on at its target with the value of the failure on the stack.
        ways.append((instruction[1], after + 1))
    return ways


def _growth(instruction):
    word = instruction[0]
    if word == "send":
        return -instruction[2]
    if word == "super":
        return 1 - instruction[3]
    return GROWTH[word]


class Coder:
    """Writes the code of one method or block, part by part in the order of its text.

    The scopes are the names of the places, those of this method or block first.
    """

    def __init__(self, scopes, owner, slots):
        self.scopes = scopes
        self.owner = owner
        self.slots = slots
        self.instructions = []
        self.blocks = []

    def code(self):
        """The code as it is written so far."""
        return ("code", len(self.scopes[0]), tuple(self.instructions), tuple(self.blocks))

    def put(self, instruction):
        self.instructions.append(instruction)

    def put_leading(self, word):
        """Writes an instruction that leads further on than is written yet; returns its number."""
        self.put((word, None))
        return len(self.instructions) - 1

    def lead_here(self, number):
        """Lets an instruction lead to the one that is written next."""
        self.instructions[number] = (self.instructions[number][0], len(self.instructions))

    def put_into(self, name):
        self.put(("set", place_of(name, self.scopes, self.slots)))

    def end_with_none(self):
        self.put(("push", None))
        self.put(("end",))

    def body(self, body):
        for part in body:
            self.statement(part)

    def statement(self, tree):
        kind = tree[0]
        if kind == "while":
            self.loop(tree[1], tree[2])
        elif kind == "if":
            self.choice(tree[1], tree[2], tree[3])
        elif kind == "try":
            self.attempt(tree[1], tree[2], tree[3])
        elif kind == "keep":
            self.kept(tree[1], tree[2])
        elif kind == "set":
            self.expression(tree[2])
            self.put_into(tree[1])
        elif kind == "eval":
            self.expression(tree[1])
            self.put(("pop",))
        else:
            # What is left is give and fail, whose instructions have the same words.
            self.expression(tree[1])
            self.put((kind,))

    def loop(self, test, body):
        start = len(self.instructions)
        self.expression(test)
        leave = self.put_leading("unless")
        self.body(body)
        self.put(("jump", start))
        self.lead_here(leave)

    def choice(self, test, body, other):
        self.expression(test)
        wrong = self.put_leading("unless")
        self.body(body)
        if not other:
            self.lead_here(wrong)
            return
        leave = self.put_leading("jump")
        self.lead_here(wrong)
        self.body(other)
        self.lead_here(leave)

    def attempt(self, body, name, handler):
        failed = self.put_leading("try")
        self.body(body)
        self.put(("done",))
        leave = self.put_leading("jump")
        self.lead_here(failed)
        self.put_into(name)
        self.body(handler)
        self.lead_here(leave)

    def kept(self, body, last):
        left = self.put_leading("keep")
        self.body(body)
        self.put(("always",))
        self.lead_here(left)
        self.body(last)
        self.put(("resume",))

    def expression(self, tree):
        """Writes what leaves the value of an expression on the stack."""
        kind = tree[0]
        if kind == "plain":
            self.put(("push", tree[1]))
        elif kind == "name":
            self.put(place_of(tree[1], self.scopes, self.slots))
        elif kind == "neg" or kind == "not":
            self.expression(tree[1])
            self.put((kind,))
        elif kind == "op":
            self.expressions((tree[2], tree[3]))
            self.put(("op", tree[1]))
        elif kind == "and":
            self.both(tree[1], tree[2])
        elif kind == "or":
            self.either(tree[1], tree[2])
        elif kind == "send":
            self.expression(tree[1])
            self.expressions(tree[3])
            self.put(("send", tree[2], len(tree[3])))
        elif kind == "super":
            self.expressions(tree[2])
            self.put(("super", self.owner, tree[1], len(tree[2])))
        elif kind == "block":
            self.block(tree[1], tree[2])
        else:
            # What is left is self and new, whose instructions are the same tuples.
            self.put(tree)

    def expressions(self, parts):
        for part in parts:
            self.expression(part)

    def both(self, left, right):
        self.expression(left)
        first = self.put_leading("unless")
        self.expression(right)
        second = self.put_leading("unless")
        self.truth([first, second])

    def either(self, left, right):
        self.expression(left)
        wrong = self.put_leading("unless")
        self.put(("push", True))
        leave = self.put_leading("jump")
        self.lead_here(wrong)
        self.expression(right)
        self.truth([self.put_leading("unless")])
        self.lead_here(leave)

    def truth(self, wrong):
        """Writes a push of True, and one of False that the instructions in wrong lead to."""
        self.put(("push", True))
        leave = self.put_leading("jump")
        for number in wrong:
            self.lead_here(number)
        self.put(("push", False))
        self.lead_here(leave)

    def block(self, params, body):
        coder = Coder([params] + self.scopes, self.owner, self.slots)
        coder.body(body)
        if body and body[-1][0] == "eval":
            # The value of the last expression is not thrown away, but what the block ends with.
            coder.instructions[-1] = ("end",)
        else:
            coder.end_with_none()
        self.put(("block", len(self.blocks)))
        self.blocks.append(coder.code())
