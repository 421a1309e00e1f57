"""What the tests of the meaning have in common: what a body means, and that the machine agrees."""

from livestead.meaning import mean
from tests.living import PLENTY, LivingCase, begun, made, stepped

# Parts that come to each of the three outcomes, as an expression, with what a body comes to then.
VALUE = "(new A).n('v')"
FAILURE = "{fail 7}.call()"
GIVING = "{give 8}.call()"
# `n` adds its argument to the global name `g`, which tells the order in which parts are carried out.
ROWS = ("class A s", "A method n(k) g := g + k; give k end", "A method one() give self.n(1) end",
        "A method f(a) g := g + 'f'; give a end", "A method f(a, b) g := g + 'F'; give b end")


def text_of(body):
    """The text of a task's body; `var` may stand ahead of it."""
    return f"method run() {body} end"


def meaning_of(image, body, limit=PLENTY):
    return mean(image, text_of(body), limit)


class MeaningCase(LivingCase):
    def image(self, rows, named):
        image = made(*rows)
        for name, value in named:
            image.put(name, value)
        return image

    def means(self, body, outcome, *rows, named=()):
        """What a body means in a new image; the machine comes to the same. Returns the image then."""
        found, after = meaning_of(self.image(rows, named), body)
        self.same(found, outcome, body)
        self.comes_to(body, outcome, rows, named)
        return after

    def gives(self, body, value, *rows, named=()):
        return self.means(body, ("done", value), *rows, named=named)

    def fails(self, body, value, *rows, named=()):
        return self.means(body, ("failed", value), *rows, named=named)

    def logs(self, body, log, outcome, *rows):
        """What a body adds to the global name `g`, and its outcome; the machine does the same."""
        rows = ROWS + rows
        after = self.means(body, outcome, *rows, named=(("g", ""),))
        self.same(after.global_values()["g"], log, body)
        for optimized in (False, True):
            image = begun(self.image(rows, (("g", ""),)), body, optimized)
            stepped(image, PLENTY)
            self.same(image.global_values()["g"], log, body)
