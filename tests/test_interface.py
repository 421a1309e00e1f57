"""The interface: names, arguments and kinds of values; and point 1: nothing is left behind."""

import inspect
import unittest

from livestead import (
    codes, errors, files, finding, images, meaning, merging, names, optimizing, printing, reading, tokens,
    trips, values,
)
from livestead.codes import compile_method, heights
from livestead.errors import (
    ChangeRefused, FileError, LivesteadError, NameTwice, RenameRefused, SourceError, TaskError,
)
from livestead.files import load, read_datum, save, write_datum
from livestead.finding import rename, rename_text, senders
from livestead.images import Image
from livestead.meaning import mean
from livestead.merging import merge
from livestead.names import place_of
from livestead.optimizing import optimize
from livestead.printing import print_expression, print_method
from livestead.reading import read_expression, read_method
from livestead.tokens import tokenize
from livestead.trips import Trip
from livestead.values import operate

METHOD = ("method", "f", (), (), ())
IMAGE_METHODS = {
    "make": "(self, change)", "undo": "(self)", "redo": "(self)", "take_out": "(self, number)",
    "changes": "(self)", "classes": "(self)", "base_of": "(self, name)", "slots_of": "(self, name)",
    "selectors_of": "(self, name)", "text_of": "(self, name, selector)", "put": "(self, name, value)",
    "global_values": "(self)", "hold": "(self, value)", "let_go": "(self)", "objects": "(self)",
    "look": "(self, number)", "collect": "(self)", "start": "(self, text, *, optimized=False)",
    "advance": "(self, number)", "state": "(self)", "depth": "(self)",
}
TRIP_METHODS = {"going": "(self, number)", "back": "(self, number)", "steps": "(self)", "here": "(self)"}


class Interface(unittest.TestCase):
    def test_arguments(self):
        for function in (tokenize, read_method, read_expression):
            self.assertEqual(str(inspect.signature(function)), "(text)")
        self.assertEqual(tokenize(text="a"), [("name", "a", 0)])
        self.assertEqual(read_expression(text="a"), ("name", "a"))
        self.assertEqual(read_method(text="method f() end"), ("method", "f", (), (), ()))

    def test_arguments_of_printing(self):
        for function in (print_method, print_expression):
            self.assertEqual(str(inspect.signature(function)), "(tree)")
        self.assertEqual(print_method(tree=METHOD), "method f() end")
        self.assertEqual(print_expression(tree=("self",)), "self")

    def test_arguments_of_codes(self):
        self.assertEqual(str(inspect.signature(compile_method)),
                         "(tree, *, owner='Thing', slots=())")
        code = compile_method(tree=METHOD, slots=("a",), owner="Foo")
        self.assertEqual(code, ("code", 0, (("push", None), ("end",)), ()))
        self.assertEqual(str(inspect.signature(heights)), "(code)")
        self.assertEqual(heights(code=code), [0, 1])

    def test_arguments_of_names_and_values(self):
        self.assertEqual(str(inspect.signature(place_of)), "(name, scopes, slots)")
        self.assertEqual(place_of(name="a", scopes=[()], slots=("a",)), ("slot", "a"))
        self.assertEqual(str(inspect.signature(operate)), "(sign, left, right)")
        self.assertEqual(operate(sign="-", left=1, right=2), ("value", -1))

    def test_arguments_of_optimizing_and_files(self):
        code = ("code", 0, (("push", 1), ("neg",), ("end",)), ())
        self.assertEqual(str(inspect.signature(optimize)), "(code)")
        self.assertEqual(optimize(code=code), ("code", 0, (("push", -1), ("end",)), ()))
        self.assertEqual(str(inspect.signature(write_datum)), "(datum)")
        self.assertEqual(write_datum(datum=[1]), "[#1;]")
        self.assertEqual(str(inspect.signature(read_datum)), "(text)")
        self.assertEqual(read_datum(text="[#1;]"), [1])
        self.assertEqual(str(inspect.signature(save)), "(image)")
        self.assertEqual(str(inspect.signature(load)), "(text)")
        image = load(text=save(image=Image()))
        self.assertIsInstance(image, Image)

    def test_the_methods_of_images(self):
        self.methods(Image, IMAGE_METHODS)
        self.assertEqual(str(inspect.signature(Image)), "()")
        image = Image()
        self.assertEqual(image.make(change=("class", "A", "Thing", ())), 0)
        self.assertIsNone(image.take_out(number=0))
        self.assertIsNone(image.put(name="a", value=1))
        self.assertIsNone(image.hold(value=1))
        self.assertIsNone(image.let_go())
        self.assertIsNone(image.start(text="method f() end", optimized=True))
        self.assertEqual(image.advance(number=1), 1)

    def methods(self, kind, wanted):
        """A class has these methods and no other public parts; they stand in its own body."""
        public = {name for name in dir(kind) if not name.startswith("_")}
        self.assertEqual(public, set(wanted))
        for name, arguments in wanted.items():
            self.assertIn(name, vars(kind))
            self.assertEqual(str(inspect.signature(getattr(kind, name))), arguments, name)

    def test_the_methods_of_trips(self):
        self.methods(Trip, TRIP_METHODS)
        self.assertEqual(str(inspect.signature(Trip)), "(image)")

    def test_arguments_of_the_tools(self):
        for function, wanted in ((mean, "(image, text, limit)"), (senders, "(image, name, count)"),
                                 (rename, "(image, name, other, count)"), (merge, "(base, mine, theirs)"),
                                 (rename_text, "(text, name, other, count)")):
            self.assertEqual(str(inspect.signature(function)), wanted)
        outcome, image = mean(image=Image(), text="method f() give 1 end", limit=2)
        self.assertEqual(outcome, ("done", 1))
        self.assertIs(type(image), Image)

    def test_objects_have_no_other_public_parts(self):
        image = Image()
        image.start("method f() end")
        self.assertEqual({name for name in dir(image) if not name.startswith("_")}, set(IMAGE_METHODS))
        self.assertEqual({name for name in dir(Trip(image)) if not name.startswith("_")}, set(TRIP_METHODS))

    def test_the_classes_of_errors(self):
        for kind in (SourceError, ChangeRefused, FileError):
            self.assertEqual(kind(3).at, 3)
        self.assertEqual(NameTwice("a").name, "a")
        for error in (SourceError(1), ChangeRefused(1), FileError(1), NameTwice("a"), RenameRefused(), TaskError()):
            self.assertIsInstance(error, LivesteadError)
            self.assertIsInstance(error, ValueError)
            self.assertEqual(type(error).__bases__, (LivesteadError,))
            self.assertEqual(type(error).__module__, errors.__name__)

    def test_each_function_is_defined_in_its_file(self):
        rows = ((tokens, ("tokenize",)), (reading, ("read_method", "read_expression")),
                (printing, ("print_method", "print_expression")), (names, ("place_of",)),
                (codes, ("compile_method", "heights")), (values, ("operate",)),
                (optimizing, ("optimize",)), (images, ("Image",)),
                (files, ("write_datum", "read_datum", "save", "load")), (meaning, ("mean",)),
                (trips, ("Trip",)), (finding, ("senders", "rename", "rename_text")), (merging, ("merge",)))
        for module, functions in rows:
            for function in functions:
                self.assertEqual(getattr(module, function).__module__, module.__name__)

    def test_one_call_leaves_nothing_to_the_next(self):
        for _ in range(3):
            self.assertRaises(SourceError, tokenize, "a !")
            self.assertRaises(SourceError, read_expression, "(" * 20)
            self.assertRaises(NameTwice, read_method, "method f(a, a) end")
            self.assertRaises(SourceError, read_method, "method f(a, a) ;")
            self.assertEqual(tokenize("a"), [("name", "a", 0)])
            self.assertEqual(read_expression("(a)"), ("name", "a"))
            self.assertEqual(read_method("method f(a) end"), ("method", "f", ("a",), (), ()))

    def test_no_error_of_another_kind(self):
        words = ("method f ( ) a := { b , c | 1 } . x 't' ; new Foo super -- not or end if then "
                 "else while do try catch keep always + = ! 2a 'open").split()
        for first in words:
            for second in words:
                for third in words:
                    for read in (tokenize, read_method, read_expression):
                        try:
                            read(f"{first} {second} {third}")
                        except LivesteadError:
                            pass


class Apart(unittest.TestCase):
    """Point 1: only the image or the trip is changed that is worked on; all that is handed out is free."""

    def image(self):
        image = Image()
        image.make(("class", "A", "Thing", ("x",)))
        image.make(("method", "A", "method set(a) x := a; give self.get() end"))
        image.make(("method", "A", "method get() give {x} end"))
        image.undo()
        image.redo()
        image.start("method run() a := new A; a.set(new A); a.set(1 + 1) end")
        image.advance(8)
        return image

    def test_what_is_handed_out_may_be_changed(self):
        image = self.image()
        told = save(image)
        for found in (image.changes(), image.classes(), image.selectors_of("A"), image.objects(),
                      senders(image, "get", 0)):
            self.assertIs(type(found), list)
            found.append(1)
            found.clear()
        image.global_values()["a"] = 5
        _, after = mean(image, "method run() a := 1 end", 10)
        after.put("b", 2)
        after.undo()
        here = Trip(image).here()
        here.put("b", 3)
        here.advance(3)
        load(told).advance(3)
        self.assertEqual(save(image), told)

    def test_lists_that_are_told_are_new_each_time(self):
        code = compile_method(read_method("method f() give 1 end"))
        for tell in (lambda: tokenize("a b"), lambda: heights(code), lambda: read_datum("[#1;#2;]"),
                     lambda: merge({}, {("A", "f/0"): "a"}, {("A", "f/0"): "b"})[1]):
            first = tell()
            wanted = list(first)
            first.clear()
            self.assertEqual(tell(), wanted)

    def test_arguments_stay_as_they_are(self):
        scopes = [("a",), ("b",)]
        place_of("b", scopes, ())
        self.assertEqual(scopes, [("a",), ("b",)])
        datum = {"b": [1, {2: "x"}], "a": (1,)}
        told = repr(datum)
        write_datum(datum)
        self.assertEqual(repr(datum), told)
        dicts = [{("A", "f/0"): "a"}, {("A", "f/0"): "b"}, {("B", "f/0"): "c"}]
        told = repr(dicts)
        merge(*dicts)
        self.assertEqual(repr(dicts), told)

    def test_images_share_nothing(self):
        image = self.image()
        copies = [load(save(image)), mean(image, "method run() end", 0)[1], Trip(image).here()]
        told = [save(copy) for copy in copies]
        image.advance(100)
        image.put("a", 1)
        image.collect()
        image.make(("no method", "A", "get/0"))
        image.take_out(1)
        self.assertEqual([save(copy) for copy in copies], told)
        wanted = save(image)
        for copy in copies:
            if copy.state() == ("running",):
                copy.advance(100)
            copy.hold(("object", 1))
            copy.undo()
            copy.make(("slot", "A", "y"))
        self.assertEqual(save(image), wanted)

    def test_two_new_images(self):
        first, second = Image(), Image()
        told = save(second)
        first.make(("class", "A", "Thing", ()))
        first.start("method run() a := new A; b := {a} end")
        first.advance(100)
        first.hold(("object", 1))
        self.assertEqual(save(second), told)
        self.assertEqual(second.classes(), ["Thing"])

    def test_a_trip_is_changed_alone(self):
        image = self.image()
        told = save(image)
        trip = Trip(image)
        trip.going(3)
        trip.back(1)
        self.assertEqual(save(image), told)
        self.assertEqual(trip.steps(), 2)


if __name__ == "__main__":
    unittest.main()
