"""Points 37 and 38: who sends what, and methods that are renamed."""

import inspect
import unittest

from livestead.errors import ChangeRefused, NameTwice, RenameRefused, SourceError
from livestead.files import save
from livestead.finding import rename, rename_text, senders
from livestead.images import Image
from livestead.meaning import mean
from livestead.printing import print_method
from livestead.reading import read_method
from tests.living import LivingCase, begun, made, make, state_of
from tests.living_trees import Writer, reached_by

ROWS = ("class B < A", "class C")


def with_methods(*rows):
    """An image with three classes, which are the first three changes."""
    return made("class A s", *ROWS, *rows)


def methods_of(image):
    """All methods of an image with their texts."""
    return [(owner, image.text_of(owner, selector)) for owner in image.classes()
            for selector in image.selectors_of(owner)]


class Senders(LivingCase):
    def sends(self, body, found, name="m", count=1):
        """Whether a method with such a body sends m with one argument (or another name)."""
        image = with_methods(f"A method f(a, b) {body} end")
        self.same(senders(image, name, count), [("A", "f/2")] if found else [], body)

    def test_nothing(self):
        self.same(senders(Image(), "m", 0), [])
        self.same(senders(with_methods(), "m", 0), [])
        self.same(senders(with_methods("A method m() end"), "m", 0), [])

    def test_sends(self):
        for body in ("a.m(1)", "self.m(a)", "super.m(a)", "give a.m(1)", "fail a.m(1)", "a := b.m(1)", "1.m(2)",
                     "while a.m(1) do end", "while a do a.m(1) end", "if a.m(1) then end", "if a then a.m(1) end",
                     "if a then else a.m(1) end", "try a.m(1) catch e then end", "try catch e then a.m(1) end",
                     "keep a.m(1) always end", "keep always a.m(1) end"):
            self.sends(body, True)

    def test_sends_within_expressions(self):
        for text in ("-a.m(1)", "not a.m(1)", "a.m(1) + 1", "1 + a.m(1)", "a.m(1) = 1", "a.m(1) and b",
                     "a and b.m(1)", "a or b.m(1)", "a.m(1).n()", "a.n(b.m(1))", "a.n(1, 2, b.m(1))",
                     "super.n(a.m(1))", "super.m(a.n())", "a.m(a.m(1))", "{a.m(1)}", "{m | {n, m | 1; m.m(1)}}",
                     "{}.m(1)", "(new A).m(1)", "{super.m(1)}.call()"):
            self.sends(text, True)

    def test_other_numbers_of_arguments(self):
        for body in ("a.m()", "a.m(1, 2)", "super.m()", "super.m(1, 2)", "a.m().n(a.m(1, 2))"):
            self.sends(body, False)
        self.sends("a.m()", True, count=0)
        self.sends("super.m(1, 2)", True, count=2)
        self.sends("a.m(1, 2, 3, 4, 5, 6, 7, 8)", True, count=8)

    def test_names_that_are_no_sends(self):
        for body in ("m", "m := 1", "give 'a.m(1)'", "'m'", "{m | m}", "{m, n | }", "a.n(m)", "try catch m then end",
                     "a.mm(1)", "a.m1(1)", "a.send(1)", "a.call(m)", "'send'", "{send, m | 1}",
                     "{send1, m | 1}", "send", "a.n('m', 1)"):
            self.sends(body, False)

    def test_names_like_the_kinds_of_trees(self):
        self.sends("{send, a, m | a.m(1)}", True)
        self.sends("{send, a, m | {block, name | plain.set(1)}}", False)
        self.sends("{block, op | eval := block.m(op)}", True)
        self.sends("a.send(1)", True, name="send")
        self.sends("a.block(1)", True, name="block")
        self.sends("{block, send | send.block(1)}", True, name="block")
        self.sends("{block, send | send.n(block)}", False, name="block")
        self.sends("super.block()", True, name="block", count=0)

    def test_parameters_and_variables_are_no_sends(self):
        image = with_methods("A method m(m) give m end", "A method f(a, m) var b; give m end",
                             "A method n() var m; m := 1 end")
        self.same(senders(image, "m", 1), [])

    def test_in_ascending_order(self):
        image = made("class C", "class B", "class A < B", "C method z(a) self.m() end", "C method a() self.m() end",
                     "B method y() self.m() end", "B method y(a) {self.m()} end", "B method n() self.n() end",
                     "A method m() super.m() end", "B method x() self.m() end")
        self.same(senders(image, "m", 0), [("A", "m/0"), ("B", "x/0"), ("B", "y/0"), ("B", "y/1"), ("C", "a/0"),
                                           ("C", "z/1")])
        self.same(senders(image, "n", 0), [("B", "n/0")])

    def test_each_method_is_told_once(self):
        image = with_methods("A method f() self.m(1); self.m(2); {self.m(self.m(3))} end")
        self.same(senders(image, "m", 1), [("A", "f/0")])

    def test_call(self):
        image = with_methods("A method f(a) a.call(1) end", "B method f(a) {a}.call() end")
        self.same(senders(image, "call", 1), [("A", "f/1")])
        self.same(senders(image, "call", 0), [("B", "f/1")])

    def test_methods_as_they_are_now(self):
        image = with_methods("A method f() self.m() end", "B method f() self.m() end")
        make(image, "A method f() self.n() end")
        make(image, "no method B f/0")
        self.same(senders(image, "m", 0), [])
        image.undo()
        self.same(senders(image, "m", 0), [("B", "f/0")])
        image.undo()
        self.same(senders(image, "m", 0), [("A", "f/0"), ("B", "f/0")])

    def test_nothing_is_changed(self):
        image = with_methods("A method f() self.m() end")
        told = save(image)
        senders(image, "m", 0).append(1)
        self.same(senders(image=image, name="m", count=0), [("A", "f/0")])
        self.assertEqual(save(image), told)
        self.same(str(inspect.signature(senders)), "(image, name, count)")


class Rename(LivingCase):
    def renames(self, rows, name, other, count, numbers, wanted):
        """Renames in an image of three classes and some methods; all methods are told then."""
        image = with_methods(*rows)
        self.same(rename(image, name, other, count), numbers)
        self.same(methods_of(image), wanted)
        return image

    def test_a_method_that_nobody_sends(self):
        image = self.renames(["A method m(a) give a end"], "m", "n", 1, [4, 5], [("A", "method n(a) give a end")])
        self.same(image.changes()[4:], [(("method", "A", "method n(a) give a end"), True),
                                        (("no method", "A", "m/1"), True)])

    def test_senders(self):
        image = self.renames(
            ["A method m() end", "A method f() self.m() end", "C method f(a) give {a.m()} end", "C method g() end"],
            "m", "n", 0, [7, 8, 9, 10],
            [("A", "method f() self.n() end"), ("A", "method n() end"), ("C", "method f(a) give {a.n()} end"),
             ("C", "method g() end")])
        self.same([change for change, _ in image.changes()[7:]],
                  [("method", "A", "method f() self.n() end"), ("method", "A", "method n() end"),
                   ("no method", "A", "m/0"), ("method", "C", "method f(a) give {a.n()} end")])

    def test_class_by_class_and_selector_by_selector(self):
        image = made("class C", "class B", "class A < C", "C method z() self.m() end", "C method m() super.m() end",
                     "B method m() self.m() end", "B method a() self.m() end", "A method m() super.m() end")
        self.same(rename(image, "m", "b", 0), list(range(8, 16)))
        self.same([change[:2] + (change[2].partition("(")[0],) for change, _ in image.changes()[8:]],
                  [("method", "A", "method b"), ("no method", "A", "m/0"), ("method", "B", "method a"),
                   ("method", "B", "method b"), ("no method", "B", "m/0"), ("method", "C", "method b"),
                   ("no method", "C", "m/0"), ("method", "C", "method z")])
        self.same(methods_of(image), [
            ("A", "method b() super.b() end"), ("B", "method a() self.b() end"), ("B", "method b() self.b() end"),
            ("C", "method b() super.b() end"), ("C", "method z() self.b() end")])

    def test_a_method_that_sends_itself(self):
        self.renames(["A method m(n) give self.m(n - 1) end", "B method m(n) give super.m(n) end"], "m", "k", 1,
                     [5, 6, 7, 8], [("A", "method k(n) give self.k(n - 1) end"),
                                    ("B", "method k(n) give super.k(n) end")])

    def test_other_numbers_of_parameters_stay(self):
        self.renames(["A method m() self.m(); self.m(1); self.m(1, 2) end", "A method m(a) self.m() end",
                      "A method m(a, b) super.m(a).m() end"],
                     "m", "n", 1, [6, 7, 8, 9],
                     [("A", "method m() self.m(); self.n(1); self.m(1, 2) end"),
                      ("A", "method m(a, b) super.n(a).m() end"), ("A", "method n(a) self.m() end")])

    def test_the_new_name_with_other_numbers_is_free(self):
        self.renames(["A method m() end", "A method n(a) self.n(1); self.m() end"], "m", "n", 0, [5, 6, 7],
                     [("A", "method n() end"), ("A", "method n(a) self.n(1); self.n() end")])

    def test_sends_of_all_kinds(self):
        text = ("method f(m) var a, b; m := m.{0}(m); give -m.{0}(1) + super.{0}(2); fail not a.{0}(b.{0}(3)); "
                "while a.{0}(4) do {{m, a | m.{0}(5)}}.{0}(6) end; if a.m() then b.{0}(7) else c.{0}(8) end; "
                "try m.{0}(9) catch m then a.{0}('m.m(1)') end; "
                "keep a.{0}(10) and b.{0}(11) always a.x(1, b.{0}(12)) end end")
        self.renames(["A method m(m) give m end", "A " + text.format("m")], "m", "n", 1, [5, 6, 7],
                     [("A", text.format("n")), ("A", "method n(m) give m end")])

    def test_names_that_are_no_sends_stay(self):
        self.renames(["A method m(m) var k; k := m; m := 'self.m(1)'; give {m | m} end"], "m", "n", 1, [4, 5],
                     [("A", "method n(m) var k; k := m; m := 'self.m(1)'; give {m | m} end")])

    def test_only_what_needs_it_is_printed(self):
        rows = ["A method   m( )end", "A method f()((self)).m( )end", "A method   g( )(1)end"]
        self.renames(rows, "m", "n", 0, [6, 7, 8], [("A", "method f() self.n() end"), ("A", "method   g( )(1)end"),
                                                    ("A", "method n() end")])

    def test_the_new_name_may_be_a_name_of_something_else(self):
        self.renames(["A method m(a) give s + a end", "A method f(s) a.m(s) end"], "m", "s", 1, [5, 6, 7],
                     [("A", "method f(s) a.s(s) end"), ("A", "method s(a) give s + a end")])

    def test_there_and_back(self):
        rows = ["A method m(a) give self.m(a) end", "B method f() {self.m(1)} end"]
        image = with_methods(*rows)
        told = methods_of(image)
        self.same(rename(image, "m", "n", 1), [5, 6, 7])
        self.same(rename(image, "n", "m", 1), [8, 9, 10])
        self.same(methods_of(image), told)

    def test_undone_one_by_one(self):
        rows = ["A method m() self.m() end", "A method f() self.m() end", "B method m() super.m() end"]
        image = with_methods(*rows)
        states = [methods_of(image)]
        changes = rename(image, "m", "n", 0)
        self.same(changes, [6, 7, 8, 9, 10])
        for number in reversed(changes):
            states.append(methods_of(image))
            self.same(image.undo(), number)
        self.same(methods_of(image), states[0])
        # The new method stands beside the old one until that is taken away.
        self.same(states[2], [
            ("A", "method f() self.n() end"), ("A", "method n() self.n() end"), ("B", "method m() super.m() end"),
            ("B", "method n() super.n() end")])
        for number in changes:
            self.same(image.redo(), number)
        self.same(methods_of(image), states[1])

    def test_what_was_undone_is_forgotten(self):
        image = with_methods("A method m() end", "A method f() end")
        image.undo()
        self.same(rename(image, "m", "n", 0), [5, 6])
        self.refused(-1, image.redo)

    def test_names_and_arguments(self):
        self.same(str(inspect.signature(rename)), "(image, name, other, count)")
        image = with_methods("A method m() end")
        found = rename(image=image, name="m", other="n", count=0)
        found.append(7)
        self.same(len(image.changes()), 6)

    def test_while_a_task_runs(self):
        image = begun(with_methods("A method m() give 5 end", "A method f() 1; give self.m() end"), "give (new A).f()")
        image.advance(3)
        rename(image, "m", "n", 0)
        image.advance(100)
        # The frame goes on with the code that it has, and the old method is not there any more.
        self.same(image.state(), ("failed", "not understood"))
        self.same(state_of(image, "give (new A).f()"), ("done", 5))


class Refused(LivingCase):
    def refuses(self, name, other, count, *rows):
        image = with_methods(*rows)
        image.undo()
        image.undo()
        image.redo()
        told = save(image)
        self.assertRaises(RenameRefused, rename, image, name, other, count)
        self.assertEqual(save(image), told)

    def test_no_such_method(self):
        self.refuses("m", "n", 0, "C method z() end", "C method zz() end")
        self.refuses("m", "n", 0, "A method m(a) end", "A method k() self.m() end", "C method z() end",
                     "C method zz() end")
        self.assertRaises(RenameRefused, rename, Image(), "m", "n", 0)

    def test_a_method_that_is_not_there_any_more(self):
        image = with_methods("A method m() end", "no method A m/0")
        self.assertRaises(RenameRefused, rename, image, "m", "n", 0)
        image.undo()
        self.same(rename(image, "m", "n", 0), [5, 6])

    def test_the_new_method_is_there(self):
        self.refuses("m", "n", 1, "A method m(a) end", "A method n(a) end", "A method f() end")
        self.refuses("m", "n", 1, "A method m(a) end", "C method n(a) end", "A method f() end")

    def test_the_new_name_is_sent(self):
        for body in ("self.n(1)", "super.n(1)", "{a.n(1)}", "try catch e then x.y(z.n(1)) end"):
            self.refuses("m", "n", 1, "A method m(a) end", f"C method f() {body} end", "A method f() end")
            self.refuses("m", "n", 1, f"A method m(a) {body} end", "A method g() end", "A method f() end")

    def test_the_same_name(self):
        self.refuses("m", "m", 0, "A method m() end", "A method f() end")

    def test_call(self):
        for count, params in ((0, ""), (1, "a"), (2, "a, b")):
            self.refuses("call", "n", count, f"A method call({params}) end", "A method f() end")
            self.refuses("m", "call", count, f"A method m({params}) end", "A method f() end")

    def test_the_new_name_stands_elsewhere(self):
        image = with_methods("A method m(a) give 'x.n(1)' end", "A method n() var n; give n end",
                             "C method f() self.n(); self.n(1, 2); n := {n | n} end")
        self.same(rename(image, "m", "n", 1), [6, 7])

    def filled(self, many):
        """An image with so many changes, whose renaming makes three."""
        image = with_methods("A method m() end", "A method f() self.m() end")
        while len(image.changes()) < many:
            make(image, "C method x() end")
        return image

    def test_60_changes(self):
        image = self.filled(57)
        self.same(rename(image, "m", "n", 0), [57, 58, 59])
        self.same(len(image.changes()), 60)

    def test_more_than_60_changes(self):
        for many in (58, 59, 60):
            image = self.filled(many)
            told = save(image)
            self.refused(60, rename, image, "m", "n", 0)
            self.assertEqual(save(image), told)
            self.same(state_of(image, "(new A).n()"), ("failed", "not understood"))

    def test_changes_out_of_force_count_too(self):
        image = self.filled(58)
        for _ in range(30):
            image.undo()
        told = save(image)
        self.refused(60, rename, image, "m", "n", 0)
        self.assertEqual(save(image), told)

    def test_refused_ahead_of_too_many_changes(self):
        image = self.filled(60)
        self.assertRaises(RenameRefused, rename, image, "k", "n", 0)
        self.assertRaises(RenameRefused, rename, image, "m", "f", 0)
        with self.assertRaises(ChangeRefused):
            rename(image, "m", "n", 0)


class Texts(LivingCase):
    def renamed(self, text, wanted, count=1):
        self.same(rename_text(text, "m", "n", count), wanted)

    def test_sends_only(self):
        self.renamed("method m(m) give m.m(m) end", "method m(m) give m.n(m) end")
        self.renamed("method f() var m; m := 'm'; self.m(1); super.m(2) end",
                     "method f() var m; m := 'm'; self.n(1); super.n(2) end")
        self.renamed("method f() {m | {m.m(a.m(1))}} end", "method f() {m | {m.n(a.n(1))}} end")

    def test_names_like_the_kinds_of_trees(self):
        self.renamed("method f() {send, a, m, x | m.m(a)} end", "method f() {send, a, m, x | m.n(a)} end")
        self.renamed("method f() {send, m, x | } end", "method f() {send, m, x | } end")
        self.renamed("method f() {block, send, m | m.m(1)} end", "method f() {block, send, m | m.n(1)} end")
        self.renamed("method f(send, block, m, n) var name, set; block.send(name, set.m(1)) end",
                     "method f(send, block, m, n) var name, set; block.send(name, set.n(1)) end")

    def test_with_as_many_arguments(self):
        self.renamed("method f() a.m(); a.m(1); a.m(1, 2) end", "method f() a.m(); a.n(1); a.m(1, 2) end")
        self.renamed("method f() a.m(); a.m(1); a.m(1, 2) end", "method f() a.n(); a.m(1); a.m(1, 2) end", 0)

    def test_the_printed_form(self):
        self.renamed("  method f( )(1)+(2*3) ;self . m(1)end", "method f() 1 + 2 * 3; self.n(1) end")
        self.renamed("method f()end", "method f() end")

    def test_nothing_is_refused(self):
        self.same(rename_text("method f() a.call(1); a.n(2) end", "call", "n", 1), "method f() a.n(1); a.n(2) end")
        self.same(rename_text("method f() a.n(1) end", "n", "call", 1), "method f() a.call(1) end")
        self.same(rename_text("method f() a.n(1) end", "n", "n", 1), "method f() a.n(1) end")

    def test_errors_of_the_text(self):
        for text, at in (("method f() !", 11), ("method f()", 10), ("", 0), ("method f() a.m( end", 16)):
            with self.assertRaises(SourceError, msg=text) as caught:
                rename_text(text, "m", "n", 1)
            self.same(caught.exception.at, at)
        with self.assertRaises(NameTwice) as caught:
            rename_text("method f(a) var b, a; end", "m", "n", 1)
        self.same(caught.exception.name, "a")

    def test_names_and_arguments(self):
        self.same(str(inspect.signature(rename_text)), "(text, name, other, count)")
        self.same(rename_text(text="method f() a.m() end", name="m", other="n", count=0), "method f() a.n() end")

    def test_as_the_methods_of_an_image(self):
        for seed in range(40):
            writer = Writer(300 + seed)
            image = writer.image()
            wanted = []
            for owner, text in methods_of(image):
                tree = read_method(rename_text(text, "m", "q", 0))
                if tree[1] == "m" and tree[2] == ():
                    tree = ("method", "q") + tree[2:]
                wanted.append((owner, print_method(tree)))
            if "m/0" in image.selectors_of("A"):
                rename(image, "m", "q", 0)
                self.same(sorted(methods_of(image)), sorted(wanted))
                self.same(senders(image, "m", 0), [])


class Meant(LivingCase):
    """Point 38: a body comes to the same if its text is renamed, too."""

    def test_made_images(self):
        good = 0
        for seed in range(60):
            writer = Writer(700 + seed)
            image, text = writer.image(), writer.method("run", 0, 8)
            other = writer.one_of(("q", "a", "s"))
            name, count = writer.one_of(("m", "n", "p")), writer.below(3)
            outcome, after = mean(image, text, 1000)
            if outcome != ("long",):
                try:
                    rename(image, name, other, count)
                except RenameRefused:
                    continue
                before = reached_by(outcome, after)
                text = rename_text(text, name, other, count)
                self.assertEqual(reached_by(*mean(image, text, 1000)), before, (seed, text))
                image.start(text)
                image.advance(5000)
                if len(image.objects()) < 60:
                    self.assertEqual(reached_by(image.state(), image), before, (seed, text))
                good += 1
        self.assertGreater(good, 40)

    def test_a_body_that_is_not_renamed(self):
        image = with_methods("A method m(n) if n = 0 then give 'in' end; give self.m(n - 1) end")
        text = "method run() give (new A).m(3) end"
        self.same(mean(image, text, 1000)[0], ("done", "in"))
        rename(image, "m", "k", 1)
        self.same(mean(image, text, 1000)[0], ("failed", "not understood"))
        self.same(mean(image, rename_text(text, "m", "k", 1), 1000)[0], ("done", "in"))


if __name__ == "__main__":
    unittest.main()
