"""The interface: names, arguments and kinds of values; and point 1: nothing is left behind."""

import inspect
import unittest

from livestead import reading, tokens
from livestead.errors import LivesteadError, NameTwice, SourceError
from livestead.reading import read_expression, read_method
from livestead.tokens import tokenize


class Interface(unittest.TestCase):
    def test_arguments(self):
        for function in (tokenize, read_method, read_expression):
            self.assertEqual(str(inspect.signature(function)), "(text)")
        self.assertEqual(tokenize(text="a"), [("name", "a", 0)])
        self.assertEqual(read_expression(text="a"), ("name", "a"))
        self.assertEqual(read_method(text="method f() end"), ("method", "f", (), (), ()))

    def test_each_function_is_defined_in_its_file(self):
        self.assertEqual(tokens.tokenize.__module__, "livestead.tokens")
        self.assertEqual(reading.read_method.__module__, "livestead.reading")
        self.assertEqual(reading.read_expression.__module__, "livestead.reading")

    def test_one_call_leaves_nothing_to_the_next(self):
        for _ in range(3):
            self.assertRaises(SourceError, tokenize, "a !")
            self.assertRaises(SourceError, read_expression, "(" * 20)
            self.assertRaises(NameTwice, read_method, "method f(a, a) end")
            self.assertRaises(SourceError, read_method, "method f(a, a) ;")
            self.assertEqual(tokenize("a"), [("name", "a", 0)])
            self.assertEqual(read_expression("(a)"), ("name", "a"))
            self.assertEqual(read_method("method f(a) end"), ("method", "f", ("a",), (), ()))

    def test_no_error_of_another_kind(self):
        words = ("method f ( ) a := { b , c | 1 } . x 't' ; new Foo super -- not or end if then "
                 "else while do try catch keep always + = ! 2a 'open").split()
        for first in words:
            for second in words:
                for third in words:
                    for read in (tokenize, read_method, read_expression):
                        try:
                            read(f"{first} {second} {third}")
                        except LivesteadError:
                            pass


if __name__ == "__main__":
    unittest.main()
