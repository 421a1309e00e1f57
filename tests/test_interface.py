"""The interface: names, arguments and kinds of values; and point 1: nothing is left behind."""

import inspect
import unittest

from livestead import (
    codes, files, images, names, optimizing, printing, reading, tokens, values,
)
from livestead.codes import compile_method, heights
from livestead.errors import LivesteadError, NameTwice, SourceError
from livestead.names import place_of
from livestead.files import load, read_datum, save, write_datum
from livestead.images import Image
from livestead.optimizing import optimize
from livestead.printing import print_expression, print_method
from livestead.reading import read_expression, read_method
from livestead.tokens import tokenize
from livestead.values import operate

METHOD = ("method", "f", (), (), ())
IMAGE_METHODS = {
    "make": "(self, change)", "undo": "(self)", "redo": "(self)", "take_out": "(self, number)",
    "changes": "(self)", "classes": "(self)", "base_of": "(self, name)", "slots_of": "(self, name)",
    "selectors_of": "(self, name)", "text_of": "(self, name, selector)", "put": "(self, name, value)",
    "global_values": "(self)", "hold": "(self, value)", "let_go": "(self)", "objects": "(self)",
    "look": "(self, number)", "collect": "(self)", "start": "(self, text, *, optimized=False)",
    "advance": "(self, number)", "state": "(self)", "depth": "(self)",
}


class Interface(unittest.TestCase):
    def test_arguments(self):
        for function in (tokenize, read_method, read_expression):
            self.assertEqual(str(inspect.signature(function)), "(text)")
        self.assertEqual(tokenize(text="a"), [("name", "a", 0)])
        self.assertEqual(read_expression(text="a"), ("name", "a"))
        self.assertEqual(read_method(text="method f() end"), ("method", "f", (), (), ()))

    def test_arguments_of_printing(self):
        for function in (print_method, print_expression):
            self.assertEqual(str(inspect.signature(function)), "(tree)")
        self.assertEqual(print_method(tree=METHOD), "method f() end")
        self.assertEqual(print_expression(tree=("self",)), "self")

    def test_arguments_of_codes(self):
        self.assertEqual(str(inspect.signature(compile_method)),
                         "(tree, *, owner='Thing', slots=())")
        code = compile_method(tree=METHOD, slots=("a",), owner="Foo")
        self.assertEqual(code, ("code", 0, (("push", None), ("end",)), ()))
        self.assertEqual(str(inspect.signature(heights)), "(code)")
        self.assertEqual(heights(code=code), [0, 1])

    def test_arguments_of_names_and_values(self):
        self.assertEqual(str(inspect.signature(place_of)), "(name, scopes, slots)")
        self.assertEqual(place_of(name="a", scopes=[()], slots=("a",)), ("slot", "a"))
        self.assertEqual(str(inspect.signature(operate)), "(sign, left, right)")
        self.assertEqual(operate(sign="-", left=1, right=2), ("value", -1))

    def test_arguments_of_optimizing_and_files(self):
        code = ("code", 0, (("push", 1), ("neg",), ("end",)), ())
        self.assertEqual(str(inspect.signature(optimize)), "(code)")
        self.assertEqual(optimize(code=code), ("code", 0, (("push", -1), ("end",)), ()))
        self.assertEqual(str(inspect.signature(write_datum)), "(datum)")
        self.assertEqual(write_datum(datum=[1]), "[#1;]")
        self.assertEqual(str(inspect.signature(read_datum)), "(text)")
        self.assertEqual(read_datum(text="[#1;]"), [1])
        self.assertEqual(str(inspect.signature(save)), "(image)")
        self.assertEqual(str(inspect.signature(load)), "(text)")
        image = load(text=save(image=Image()))
        self.assertIsInstance(image, Image)

    def test_the_methods_of_images(self):
        self.methods(Image, IMAGE_METHODS)
        self.assertEqual(str(inspect.signature(Image)), "()")
        image = Image()
        self.assertEqual(image.make(change=("class", "A", "Thing", ())), 0)
        self.assertIsNone(image.take_out(number=0))
        self.assertIsNone(image.put(name="a", value=1))
        self.assertIsNone(image.hold(value=1))
        self.assertIsNone(image.let_go())
        self.assertIsNone(image.start(text="method f() end", optimized=True))
        self.assertEqual(image.advance(number=1), 1)

    def methods(self, kind, wanted):
        """A class has these methods and no other public parts; they stand in its own body."""
        public = {name for name in dir(kind) if not name.startswith("_")}
        self.assertEqual(public, set(wanted))
        for name, arguments in wanted.items():
            self.assertIn(name, vars(kind))
            self.assertEqual(str(inspect.signature(getattr(kind, name))), arguments, name)

    def test_objects_have_no_other_public_parts(self):
        image = Image()
        image.start("method f() end")
        self.assertEqual({name for name in dir(image) if not name.startswith("_")}, set(IMAGE_METHODS))

    def test_each_function_is_defined_in_its_file(self):
        rows = ((tokens, ("tokenize",)), (reading, ("read_method", "read_expression")),
                (printing, ("print_method", "print_expression")), (names, ("place_of",)),
                (codes, ("compile_method", "heights")), (values, ("operate",)),
                (optimizing, ("optimize",)), (images, ("Image",)),
                (files, ("write_datum", "read_datum", "save", "load")))
        for module, functions in rows:
            for function in functions:
                self.assertEqual(getattr(module, function).__module__, module.__name__)

    def test_one_call_leaves_nothing_to_the_next(self):
        for _ in range(3):
            self.assertRaises(SourceError, tokenize, "a !")
            self.assertRaises(SourceError, read_expression, "(" * 20)
            self.assertRaises(NameTwice, read_method, "method f(a, a) end")
            self.assertRaises(SourceError, read_method, "method f(a, a) ;")
            self.assertEqual(tokenize("a"), [("name", "a", 0)])
            self.assertEqual(read_expression("(a)"), ("name", "a"))
            self.assertEqual(read_method("method f(a) end"), ("method", "f", ("a",), (), ()))

    def test_no_error_of_another_kind(self):
        words = ("method f ( ) a := { b , c | 1 } . x 't' ; new Foo super -- not or end if then "
                 "else while do try catch keep always + = ! 2a 'open").split()
        for first in words:
            for second in words:
                for third in words:
                    for read in (tokenize, read_method, read_expression):
                        try:
                            read(f"{first} {second} {third}")
                        except LivesteadError:
                            pass


if __name__ == "__main__":
    unittest.main()
