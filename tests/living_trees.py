"""Images with methods and bodies of all kinds, made by the numbers of a small generator."""

from livestead.errors import SourceError
from livestead.images import Image
from livestead.printing import print_method
from livestead.reading import read_method

NAMES = ("a", "b", "c", "s", "t", "g", "h", "k")
SELECTORS = ("m", "n", "p", "call")
CLASSES = ("A", "B", "C")
PLAIN = (0, 1, 2, 3, 1000000000, "x", "y", True, False, None)


class Writer:
    """Makes bodies that come far: names have values, most classes are there, much is tried.

    Room is how many depths there are for a part. Texts that turn out too deep are made anew.
    """

    def __init__(self, seed):
        self.number = seed * 7919 + 1

    def below(self, most):
        self.number = (self.number * 1103515245 + 12345) % 2 ** 31
        return self.number // 65536 % most

    def one_of(self, parts):
        return parts[self.below(len(parts))]

    def some_names(self, most):
        found = []
        for _ in range(self.below(most + 1)):
            name = self.one_of(NAMES)
            if name not in found:
                found.append(name)
        return tuple(found)

    def image(self):
        """An image with global names, three classes and their methods."""
        image = Image()
        for name in NAMES:
            image.put(name, self.one_of(PLAIN))
        image.make(("class", "A", "Thing", ("s",)))
        image.make(("class", "B", "A", ("t",)))
        image.make(("class", "C", "Thing", ("g", "s")))
        for owner in CLASSES:
            for name in SELECTORS:
                for many in range(3):
                    if self.below(4):
                        image.make(("method", owner, self.method(name, many, 4 + self.below(3))))
        return image

    def method(self, name, many, room):
        """The text of a method with so many parameters."""
        while True:
            params = NAMES[self.below(3):][:many]
            variables = tuple(name for name in self.some_names(3) if name not in params)
            text = print_method(("method", name, params, variables, self.body(room)))
            try:
                read_method(text)
                return text
            except SourceError:
                pass

    def body(self, room):
        if room < 2:
            return ()
        if room > 3 and self.below(3) == 0:
            return tuple(("try", (self.statement(room - 1),), self.one_of(NAMES), self.body(room - 4))
                         for _ in range(1 + self.below(3)))
        return tuple(self.statement(room) for _ in range(1 + self.below(3)))

    def statement(self, room):
        kind = self.below(100)
        inner = room - 1
        if kind < 30:
            return ("set", self.one_of(NAMES), self.expression(inner))
        if kind < 38:
            return ("give", self.expression(inner))
        if kind < 44:
            return ("fail", self.expression(inner))
        if kind < 60:
            return ("eval", self.expression(inner))
        if kind < 62:
            return ("while", self.truth(inner), self.body(inner))
        if kind < 75:
            return ("if", self.truth(inner), self.body(inner), self.body(inner))
        if kind < 88:
            return ("try", self.body(inner), self.one_of(NAMES), self.body(inner))
        return ("keep", self.body(inner), self.body(inner))

    def truth(self, room):
        kind = self.below(10)
        if room < 2 or kind < 4:
            return ("plain", kind % 2 == 0)
        if kind < 8:
            sign = self.one_of(("=", "<", "<="))
            return ("op", sign, self.expression(room - 2), self.expression(room - 2))
        if kind < 9:
            return ("not", self.truth(room - 2))
        return self.expression(room)

    def expression(self, room):
        kind = self.below(100)
        inner = room - 2
        if room < 1 or kind < 25:
            return self.leaf()
        if kind < 38:
            sign = self.one_of(("=", "<", "<=", "+", "-", "*", "/"))
            return ("op", sign, self.expression(inner), self.expression(inner))
        if kind < 43:
            return (self.one_of(("and", "or")), self.truth(inner), self.truth(inner))
        if kind < 47:
            return ("not", self.truth(inner))
        if kind < 50:
            return ("neg", self.expression(inner))
        if kind < 75:
            receiver = self.one_of((("self",), ("new", self.one_of(CLASSES)), ("name", self.one_of(NAMES)),
                                    self.expression(inner)))
            return ("send", receiver, self.one_of(SELECTORS), self.arguments(inner))
        if kind < 80:
            return ("super", self.one_of(SELECTORS), self.arguments(inner))
        params = self.some_names(2)
        block = ("block", params, self.body(inner))
        if kind < 90:
            return block
        return ("send", block, "call", tuple(self.expression(inner - 1) for _ in params))

    def arguments(self, room):
        return tuple(self.expression(room) for _ in range(self.one_of((0, 0, 1, 1, 2))))

    def leaf(self):
        kind = self.below(10)
        if kind < 3:
            return ("plain", self.one_of(PLAIN))
        if kind < 7:
            return ("name", self.one_of(NAMES))
        if kind < 8:
            return ("self",)
        return ("new", self.one_of(CLASSES * 4 + ("Z",)))


def reached(image):
    """What a task came to and left in the objects that can be reached, whatever their numbers are."""
    return reached_by(image.state(), image)


def reached_by(outcome, image):
    """The same for an outcome of a body that an image does not know of."""
    numbers = {}

    def shown(value):
        if isinstance(value, tuple):
            return ("object", numbers.setdefault(value[1], len(numbers)))
        return value

    found = [outcome[0]] + [shown(value) for value in outcome[1:]]
    found.extend((name, shown(value)) for name, value in sorted(image.global_values().items()))
    told = []
    while len(told) < len(numbers):
        thing = image.look(list(numbers)[len(told)])
        told.append(thing if thing[0] == "block" else
                    (thing[1], [(slot, shown(value)) for slot, value in thing[2]]))
    return repr((found, told))
