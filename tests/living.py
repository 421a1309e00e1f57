"""What the tests of images have in common: images from a few rows, and bodies that are run."""

import unittest

from livestead.errors import ChangeRefused
from livestead.images import Image

PLENTY = 100000


def made(*rows):
    """An image: `class B < A x y` makes a class with slots, `A method f() end` a method of A."""
    image = Image()
    for row in rows:
        make(image, row)
    return image


def make(image, row):
    """Makes the change that a row tells, and returns its number."""
    return image.make(change_of(row))


def change_of(row):
    """`class`, `no class`, `slot`, `no slot` and `no method` stand as in point 27, without marks."""
    words = row.split(" ")
    if words[0] == "class":
        base, slots = "Thing", words[2:]
        if slots[:1] == ["<"]:
            base, slots = slots[1], slots[2:]
        return ("class", words[1], base, tuple(slots))
    if words[0] == "no":
        return (" ".join(words[:2]), *words[2:])
    if words[0] == "slot":
        return tuple(words)
    return ("method", words[0], row[len(words[0]) + 1:])


def begun(image, body, optimized=False):
    """Starts a body; `var` may stand ahead of it."""
    image.start(f"method run() {body} end", optimized=optimized)
    return image


def state_of(image, body, optimized=False):
    """What a body comes to in an image."""
    begun(image, body, optimized).advance(PLENTY)
    return image.state()


def stepped(image, portion):
    """Goes on to the end of the task in portions; returns how many steps were made."""
    made_steps = 0
    while image.state() == ("running",):
        made_steps += image.advance(portion)
    return made_steps


def fill(image, many):
    """Makes so many instances of Thing, all of them held."""
    for _ in range(many):
        image.hold(state_of(image, "give new Thing")[1])


class LivingCase(unittest.TestCase):
    def same(self, found, wanted, told=None):
        """Whether two values are the same, with no 1 in the place of a True."""
        self.assertEqual(repr(found), repr(wanted), told)

    def comes_to(self, body, state, rows=(), named=()):
        """What a body comes to in a new image, plain and optimized."""
        for optimized in (False, True):
            image = made(*rows)
            for name, value in named:
                image.put(name, value)
            self.same(state_of(image, body, optimized), state, (body, optimized))

    def done(self, body, value, *rows):
        self.comes_to(body, ("done", value), rows)

    def failed(self, body, value, *rows):
        self.comes_to(body, ("failed", value), rows)

    def refused(self, at, action, *arguments):
        with self.assertRaises(ChangeRefused) as caught:
            action(*arguments)
        self.same(caught.exception.at, at)
