"""Points 5 and 6: the tokens of a text."""

import unittest

from livestead.tokens import tokenize
from tests.cases import MARKS, WORDS, ReadingCase

# Every character from the space to ~ that neither a token nor a space begins with.
WRONG = "!\"#$%&>?@[\\]^_`~"


class Kinds(ReadingCase):
    def one(self, text, kind, value):
        self.assertEqual(tokenize(text), [(kind, value, 0)], text)

    def test_example(self):
        self.assertEqual(tokenize("x := 2"),
                         [("name", "x", 0), ("mark", ":=", 2), ("number", 2, 5)])

    def test_result_is_a_fresh_list_of_tuples(self):
        first = tokenize("a 1")
        self.assertIs(type(first), list)
        self.assertIs(type(first[0]), tuple)
        self.assertIs(type(first[1][1]), int)
        first.append("more")
        self.assertEqual(tokenize("a 1"), [("name", "a", 0), ("number", 1, 2)])

    def test_nothing(self):
        for text in ("", " ", "     "):
            self.assertEqual(tokenize(text), [])

    def test_words(self):
        for word in WORDS:
            self.one(word, "word", word)

    def test_names_that_are_nearly_words(self):
        for word in WORDS:
            for near in (word + "s", word + "1", word + "A", "x" + word):
                self.one(near, "name", near)
            capital = word[0].upper() + word[1:]
            self.one(capital, "class", capital)
            self.one(word.upper(), "class", word.upper())
        for near in ("elsethen", "d", "no", "is", "call", "print", "nil"):
            self.one(near, "name", near)

    def test_names(self):
        for text in ("a", "z", "aB", "a1", "z9Z", "abcdefghij0123456789", "a" * 20, "aZ" * 10):
            self.one(text, "name", text)
        for text in ("a" * 21, "abcdefghij01234567890", "aB" * 11, "z" * 300):
            self.refused_at(tokenize, text, 0)

    def test_class_names(self):
        for text in ("A", "Z", "Thing", "A1", "AB", "Abcdefghij0123456789", "A" * 20):
            self.one(text, "class", text)
        for text in ("A" * 21, "Abcdefghij01234567890", "T" * 300):
            self.refused_at(tokenize, text, 0)

    def test_numbers(self):
        for number in (0, 1, 9, 10, 100, 999999999, 1000000000):
            self.one(str(number), "number", number)
        for text in ("1000000001", "1000000010", "2000000000", "9999999999", "10000000000"):
            self.refused_at(tokenize, text, 0)
        self.refused_at(tokenize, "1" * 5000, 0)

    def test_needless_zeros(self):
        for text in ("00", "01", "007", "00000000000", "0a", "0000000001"):
            self.refused_at(tokenize, text, 0)

    def test_letters_behind_digits(self):
        for text in ("2a", "2A", "2x3", "10end", "1e5", "0x"):
            self.refused_at(tokenize, text, 0)
        self.assertEqual(tokenize("2 a"), [("number", 2, 0), ("name", "a", 2)])

    def test_texts(self):
        for inside in ("", "a", " ", "  a  ", "method", ":=", "1", "a" * 200, " " * 200,
                       "!\"#$&()*+,-./0:;<=>?@AZ[\\]^_`az{|}~"):
            self.one("'" + inside + "'", "text", inside)

    def test_texts_that_are_too_long(self):
        for many in (201, 202, 1000):
            self.refused_at(tokenize, "'" + "a" * many + "'", 0)

    def test_texts_without_an_end(self):
        for text in ("'", "'a", "'a b", "'" + "a" * 200, "'" + "a" * 300):
            self.refused_at(tokenize, text, 0)
        self.no_tokens("a ^'")
        self.no_tokens("'a'^'")
        self.no_tokens("'a' b ^'c d")

    def test_texts_with_a_character_that_no_source_has(self):
        for character in ("%", "\n", "\t", "\x00", "\x7f", "\xe9"):
            self.refused_at(tokenize, "a 'b" + character + "c'", 2)

    def test_texts_side_by_side(self):
        self.assertEqual(tokenize("''''"), [("text", "", 0), ("text", "", 2)])
        self.assertEqual(tokenize("'a''b'c"), [("text", "a", 0), ("text", "b", 3), ("name", "c", 6)])
        self.assertEqual(tokenize("a'b'2"), [("name", "a", 0), ("text", "b", 1), ("number", 2, 4)])

    def test_marks(self):
        for mark in MARKS:
            self.one(mark, "mark", mark)

    def test_the_longest_mark_fits(self):
        self.assertEqual(tokenize("<="), [("mark", "<=", 0)])
        self.assertEqual(tokenize("< ="), [("mark", "<", 0), ("mark", "=", 2)])
        self.assertEqual(tokenize("<<="), [("mark", "<", 0), ("mark", "<=", 1)])
        self.assertEqual(tokenize("<=="), [("mark", "<=", 0), ("mark", "=", 2)])
        self.assertEqual(tokenize("=<"), [("mark", "=", 0), ("mark", "<", 1)])
        self.assertEqual(tokenize("=="), [("mark", "=", 0), ("mark", "=", 1)])
        self.assertEqual(tokenize(":=="), [("mark", ":=", 0), ("mark", "=", 2)])
        self.assertEqual(tokenize("a:=<b"), [("name", "a", 0), ("mark", ":=", 1),
                                             ("mark", "<", 3), ("name", "b", 4)])

    def test_the_colon_alone(self):
        self.no_tokens("^:")
        self.no_tokens("^: =")
        self.no_tokens("a ^: = b")
        self.no_tokens("^::=")
        self.no_tokens("a:=^:")

    def test_marks_side_by_side(self):
        for first in MARKS:
            for second in MARKS:
                self.assertEqual(tokenize(first + " " + second),
                                 [("mark", first, 0), ("mark", second, len(first) + 1)])
                if (first, second) != ("<", "="):
                    self.assertEqual(tokenize(first + second),
                                     [("mark", first, 0), ("mark", second, len(first))])

    def test_characters_that_begin_no_token(self):
        for character in WRONG:
            self.refused_at(tokenize, character, 0)
            self.refused_at(tokenize, "a " + character, 2)
            self.refused_at(tokenize, "a" + character, 1)
            self.refused_at(tokenize, "a1" + character + "b", 2)
            self.refused_at(tokenize, "12" + character, 2)
            self.refused_at(tokenize, "+" + character, 1)

    def test_every_other_character_begins_a_token(self):
        for code in range(33, 127):
            character = chr(code)
            if character not in WRONG and character not in ":'":
                self.assertEqual(len(tokenize(character)), 1, character)

    def test_characters_beyond_the_source(self):
        for character in ("\n", "\t", "\r", "\x00", "\x1f", "\x7f", "\xa0", "\xe9", "\xc9",
                          "\xb2", "\u0661", "\u0430", "\u2028", "\U0001d7ce"):
            self.refused_at(tokenize, character, 0)
            self.refused_at(tokenize, "ab" + character, 2)
            self.refused_at(tokenize, "1" + character, 1)
            self.refused_at(tokenize, "A " + character + " b", 2)

    def test_no_error_for_length(self):
        text = "ab + " * 1000
        self.assertEqual(len(tokenize(text)), 2000)
        self.assertEqual(tokenize(" " * 5000 + "a"), [("name", "a", 5000)])


class Positions(ReadingCase):
    def test_spaces(self):
        self.assertEqual(tokenize("   a"), [("name", "a", 3)])
        self.assertEqual(tokenize("a   "), [("name", "a", 0)])
        self.assertEqual(tokenize("  a   12  'b c'  Foo <=  end "),
                         [("name", "a", 2), ("number", 12, 6), ("text", "b c", 10),
                          ("class", "Foo", 17), ("mark", "<=", 21), ("word", "end", 25)])

    def test_without_spaces(self):
        self.assertEqual(tokenize("a.x(1,'b')|Foo{c}"),
                         [("name", "a", 0), ("mark", ".", 1), ("name", "x", 2), ("mark", "(", 3),
                          ("number", 1, 4), ("mark", ",", 5), ("text", "b", 6), ("mark", ")", 9),
                          ("mark", "|", 10), ("class", "Foo", 11), ("mark", "{", 14),
                          ("name", "c", 15), ("mark", "}", 16)])
        self.assertEqual(tokenize("1-2"), [("number", 1, 0), ("mark", "-", 1), ("number", 2, 2)])

    def test_the_first_wrong_token_is_told(self):
        self.no_tokens("a ^2a 2b")
        self.no_tokens("   ^01 !")
        self.no_tokens("a b ^! 'c")
        self.no_tokens("ab ^'cd ! 2a")
        self.no_tokens("x := ^1000000001; y := 'a")
        self.no_tokens("A ^" + "b" * 21 + " 01")

    def test_reading_refuses_wrong_tokens(self):
        self.no_expression("a + ^2a")
        self.no_expression("^%")
        self.no_method("method f() give ^# end")


class WrongTokensComeFirst(ReadingCase):
    """A wrong token comes ahead of every other fault, wherever it is."""

    def test_behind_another_fault(self):
        self.no_expression(") ^!")
        self.no_expression("a b ^'c")
        self.no_expression("end end ^00")
        self.no_expression("a = b = c ^2a")
        self.no_method("x ^?")
        self.no_method("method f() ; end ^_")
        self.no_method("method f( ^" + "a" * 21)

    def test_behind_a_depth_or_a_number(self):
        self.no_expression("-" * 30 + "1 ^%")
        self.no_expression("a.x(1, 2, 3, 4, 5, 6, 7, 8, 9) ^~")
        self.no_expression("{a, b, c, d, e | } ^@")

    def test_behind_a_name_twice(self):
        self.no_expression("{a, a | } ^&")
        self.no_method("method f(a, a) end ^1a")

    def test_behind_a_text_that_is_complete(self):
        self.no_expression("a ^$")
        self.no_method("method f() end ^'")
        self.no_method("method f() give a end ^2a")


if __name__ == "__main__":
    unittest.main()
