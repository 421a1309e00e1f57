"""Point 34: images that are saved and loaded."""

import unittest

from livestead.errors import FileError
from livestead.files import load, save
from livestead.images import Image
from tests.living import LivingCase, begun, fill, made, make, state_of

ROWS = ("class A x", "class B < A y", "A method set(b) x := b; give self end",
        "A method block(n) var k; k := n; give {m | keep k := k + m; n := k always y := n end; k} end",
        "B method block(n) give super.block(n * 2) end",
        "A method run(b) try b.call() catch x then fail x end end")
BODY = ("var a, b, c; a := (new A).set(new B); b := (new B).block(5); "
        "try c := b.call(1) + b.call('t') catch e then h := {e; a}; c := 3 end; "
        "keep try a.run({give b}) catch e then i := e end always g := {k | c := c + k; c} end; give c")


def sum_of(text):
    total = 1
    for character in text:
        total = (31 * total + ord(character)) % 1000003
    return total


def file_of(text):
    return f"{text}\n{sum_of(text)}\n"


class FilesCase(LivingCase):
    def told(self, image):
        """All that can be asked of an image."""
        names = image.classes()
        return repr((
            [(name, image.base_of(name), image.slots_of(name),
              [(selector, image.text_of(name, selector)) for selector in image.selectors_of(name)])
             for name in names],
            image.changes(), sorted(image.global_values().items()), image.state(), image.depth(),
            [(number, image.look(number)) for number in image.objects()]))

    def again(self, image):
        """The image, saved and loaded; both tell the same, and are saved as the same text."""
        text = save(image)
        told = self.told(image)
        loaded = load(text)
        self.assertEqual(self.told(loaded), told)
        self.assertEqual(save(loaded), text)
        self.assertEqual(save(image), text)
        self.assertEqual(self.told(image), told)
        return loaded

    def refuses(self, text, at):
        with self.assertRaises(FileError, msg=text) as caught:
            load(text)
        self.assertEqual(caught.exception.at, at, text)


class Form(FilesCase):
    def test_two_lines(self):
        image = made(*ROWS)
        lines = save(image).split("\n")
        self.same(len(lines), 3)
        self.same(lines[1], str(sum_of(lines[0])))
        self.same(lines[2], "")

    def test_no_file(self):
        for text in ("", "\n", "\n\n", "N", "N\n", "N\n109", "N\n109\n\n", "\nN\n109\n", "N\n\n109\n",
                     "N\n0109\n", "N\n00\n", "N\n-109\n", "N\n+109\n", "N\n 109\n", "N\n109 \n", "N\n10a9\n",
                     "N\r\n109\r\n", "N\n109\nN", "N\n109\n ", "N\n109\n109", "N\n\u0661\n", "N\n\u00b2\n", "a\nb\nc\n", "109\nN\n"):
            self.refuses(text, 0)

    def test_a_wrong_sum(self):
        self.same(sum_of("N"), 109)
        for text in ("N\n108\n", "N\n1\n", "N\n0\n", "N\n1000112\n", "N\n" + "9" * 6000 + "\n", "\n0\n",
                     "NN\n109\n"):
            self.refuses(text, 1)

    def test_no_datum(self):
        for text in ("", "X", "NN", "[", "#01;", '"2:a', "{NN}", " N", "N "):
            self.refuses(file_of(text), 2)

    def test_the_sum_comes_ahead_of_the_datum_and_behind_the_form(self):
        self.refuses("[\n7\n", 1)
        self.refuses("[\n07\n", 0)
        self.refuses("[\n7", 0)

    def test_one_character_left_out_or_added_or_changed(self):
        image = begun(made("class A x", "A method f(a) x := a; give {x} end"), "g := (new A).f('text')")
        image.advance(9)
        text = save(image)
        for at in range(len(text)):
            self.broken(text[:at] + text[at + 1:], text)
            for sign in "1 \na":
                self.broken(text[:at] + sign + text[at:], text)
                self.broken(text[:at] + sign + text[at + 1:], text)

    def broken(self, text, whole):
        if text != whole:
            with self.assertRaises(FileError, msg=text) as caught:
                load(text)
            self.assertIn(caught.exception.at, (0, 1))


class Images(FilesCase):
    def test_a_new_image(self):
        image = self.again(Image())
        self.same(image.classes(), ["Thing"])
        self.same(image.state(), ("none",))
        make(image, "class A")
        self.same(state_of(image, "give new A"), ("done", ("object", 1)))

    def test_changes_in_and_out_of_force(self):
        image = made("class A x", "slot A y", "slot A z", "A method f() give y end", "class B < A")
        image.take_out(2)
        image.undo()
        image.undo()
        loaded = self.again(image)
        self.same(loaded.redo(), 3)
        self.same(loaded.redo(), 4)
        self.refused(-1, loaded.redo)
        self.refused(5, make, loaded, "class B")
        self.same(make(loaded, "class C"), 5)
        self.same(self.again(image).undo(), 1)

    def test_values_of_all_kinds(self):
        image = Image()
        for number, value in enumerate((None, True, False, 0, 1, -1000000000, "", "a;:\"()[]{}#NTF|", "x" * 200)):
            image.put(f"g{number}", value)
        self.again(image)

    def test_hidden_slots_and_classes_that_are_not_there(self):
        image = made(*ROWS)
        state_of(image, "a := (new B).set(5); b := new A")
        image.undo()
        image.undo()
        make(image, "no slot A x")
        loaded = self.again(image)
        self.same(loaded.look(1), ("instance", "B", (("x", 5),)))

    def test_held_values(self):
        image = made("class A")
        fill(image, 2)
        state_of(image, "new A; none")
        loaded = self.again(image)
        self.same(loaded.collect(), 1)
        self.same(loaded.objects(), [1, 2])
        loaded.let_go()
        self.same(loaded.collect(), 2)
        self.same(image.objects(), [1, 2, 3])

    def test_numbers_of_objects_go_on(self):
        image = made("class A")
        state_of(image, "new A; new A; none")
        image.collect()
        self.same(state_of(self.again(image), "give new A"), ("done", ("object", 3)))

    def test_outcomes(self):
        for body in ("give 5", "fail 'x'", "give new Thing", "fail {a | a}", "", "g := 1"):
            for optimized in (False, True):
                image = Image()
                state_of(image, body, optimized)
                loaded = self.again(image)
                self.same(loaded.collect(), image.collect())
                self.same(loaded.advance(5), 0)

    def test_two_images_share_nothing(self):
        image = made(*ROWS)
        begun(image, BODY).advance(20)
        told = self.told(image)
        loaded = load(save(image))
        loaded.advance(1000)
        loaded.put("a", 1)
        make(loaded, "class C")
        loaded.undo()
        loaded.undo()
        loaded.collect()
        self.assertEqual(self.told(image), told)

    def test_the_same_text_whatever_way_was_gone(self):
        images = [begun(made(*ROWS), BODY) for _ in range(2)]
        images[0].advance(60)
        for _ in range(60):
            images[1].advance(1)
        self.assertEqual(save(images[0]), save(images[1]))


class AtEveryStep(FilesCase):
    def goes_on(self, body, *rows):
        """Saved at every step, loaded, saved again and gone on with: all is as without this."""
        for optimized in (False, True):
            plain = begun(made(*rows), body, optimized)
            going = begun(made(*rows), body, optimized)
            while plain.advance(1):
                going = self.again(going)
                self.same(going.advance(1), 1)
                self.assertEqual(self.told(going), self.told(plain))
                self.assertEqual(save(going), save(plain))
            self.same(self.again(going).advance(1), 0)

    def test_many_things(self):
        self.goes_on(BODY, *ROWS)

    def test_try_and_keep(self):
        self.goes_on("keep try fail 1 catch e then fail 2 end always keep give 3 always g := 4 end end")
        self.goes_on("try keep {give new Thing}.call() always try fail {} catch e then g := e end; fail 6 end "
                     "catch e then keep h := e always fail g end end")

    def test_blocks(self):
        self.goes_on("var f, n; n := 1; f := {k | if k = 0 then give n end; n := n + k; f.call(k - 1)}; "
                     "f.call(4)")
        self.goes_on("var b; b := {x | {y | {z | x := x + y + z; x}}}; b := b.call(1).call(2); "
                     "g := b.call(3) * 100 + b.call(4); give b")

    def test_stacks_that_are_high(self):
        self.goes_on("give 1 + {2 + {3}.call()}.call()")
        self.goes_on("give 1 + (2 + (3 + {4}.call()))")

    def test_places_are_shared_as_before(self):
        self.goes_on("var n, up, told; n := 0; up := {n := n + 1}; told := {n}; up.call(); up.call(); "
                     "give told.call()")

    def test_a_block_of_a_method_that_was_left(self):
        rows = ("class A", "A method f() give {give 5} end")
        self.goes_on("var b; b := (new A).f(); try b.call() catch e then g := e end; give {b.call()}.call()",
                     *rows)

    def test_changes_made_on_the_way(self):
        image = begun(made(*ROWS), BODY)
        image.advance(12)
        make(image, "no method A run/1")
        make(image, "slot A z")
        image = self.again(image)
        image.undo()
        image = self.again(image)
        image.undo()
        image = self.again(image)
        image.advance(1000)
        other = begun(made(*ROWS), BODY)
        other.advance(1000)
        self.same(image.state(), other.state())
        self.same(image.global_values(), other.global_values())

    def test_a_frame_goes_on_with_the_code_it_has(self):
        rows = ("class A", "A method f() g := 1; h := 2; give 3 end")
        image = begun(made(*rows), "give (new A).f()")
        image.advance(4)
        make(image, "A method f() give 9 end")
        image = self.again(image)
        make(image, "slot A g")
        image = self.again(image)
        image.advance(100)
        self.same(image.state(), ("done", 3))
        self.same(image.global_values(), {"g": 1, "h": 2})

    def test_a_block_keeps_its_names(self):
        image = made("class A s", "A method f() s := 1; give {s} end")
        state_of(image, "b := (new A).f(); s := 7", True)
        make(image, "no slot A s")
        image = self.again(image)
        self.same(state_of(image, "give b.call()"), ("failed", "no slot"))
        make(image, "slot A s")
        self.same(state_of(self.again(image), "give b.call()"), ("done", 1))

    def test_an_optimized_task_stays_so(self):
        rows = ("class A", "A method f() give 1 + 2 end")
        image = begun(made(*rows), "(new A).f(); give (new A).f()", True)
        image.advance(2)
        loaded = self.again(image)
        self.same(loaded.advance(100), image.advance(100))


if __name__ == "__main__":
    unittest.main()
