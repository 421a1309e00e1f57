"""Point 35: the texts of data."""

import unittest

from livestead.errors import FileError
from livestead.files import read_datum, write_datum

# Data with their texts.
ROWS = (
    (None, "N"), (True, "T"), (False, "F"),
    (0, "#0;"), (5, "#5;"), (-5, "#-5;"), (10, "#10;"), (1000000000, "#1000000000;"),
    (99999999999999999999, "#99999999999999999999;"), (-99999999999999999999, "#-99999999999999999999;"),
    ("", '"0:'), ("a", '"1:a'), ("a b", '"3:a b'), ("(;:\"#N", '"6:(;:"#N'), ("x" * 12, '"12:' + "x" * 12),
    ([], "[]"), ((), "()"), ([1], "[#1;]"), ((1,), "(#1;)"), ([[], ()], "[[]()]"), (((), []), "(()[])"),
    (["a", None, True], '["1:aNT]'), ((1, (2, [3])), "(#1;(#2;[#3;]))"),
    ({}, "{}"), ({"a": 1}, '{"1:a#1;}'), ({5: "a"}, '{#5;"1:a}'), ({"": {}}, '{"0:{}}'),
    ({"b": 1, "a": 2}, '{"1:a#2;"1:b#1;}'),
    # The texts of the keys ascend: by the lengths of strings as digits, and numbers as digits.
    ({"b": 1, "aa": 2}, '{"1:b#1;"2:aa#2;}'), ({"x" * 10: 1, "b": 2}, '{"10:xxxxxxxxxx#1;"1:b#2;}'),
    ({1: 1, 2: 2, 10: 3}, "{#10;#3;#1;#1;#2;#2;}"), ({-1: 1, 1: 2}, "{#-1;#1;#1;#2;}"),
    ({9: 1, 10: 2, -3: 3, "a": 4}, '{"1:a#4;#-3;#3;#10;#2;#9;#1;}'),
    ({"k": [{"m": (None,)}]}, '{"1:k[{"1:m(N)}]}'),
)
BROKEN = (
    "", " ", "X", "n", "t", "NN", "N ", " N", "TF", "1", "-1", "a",
    "#", "#;", "#5", "#-;", "#-", "#00;", "#01;", "#-0;", "#-01;", "#+5;", "#--5;", "#5 ;", "# 5;", "#5;;",
    "#5.0;", "#a;", "#100000000000000000000;", "#-100000000000000000000;", "#\u0665;", "#\u00b2;", "#5:",
    '"', '":', '"0', '"1:', '"2:a', '"1:ab', '"01:a', '"00:', '"-1:a', '"a:a', '"1;a', '" 1:a', '"+1:a',
    '"99999999999999999999:a', '"100000000000000000000:a', '"' + "9" * 5000 + ':a', '"1:\n', '"3:a\nb',
    '"\u0661:a',
    "[", "]", "(", ")", "{", "}", "[N", "(N", "{N", "[)", "(]", "[}", "{]", "[N)", "(N]", "[]]", "())",
    "[#1]", "[#1;", "[N,N]", "[ ]", "(N N)",
    '{"1:a}', "{#1;}", "{NN}", "{TN}", "{[]N}", "{()N}", "{{}N}", '{"1:aN', '{"1:a#1;"1:a#1;}',
    '{"1:bN"1:aN}', "{#1;N#10;N}", '{#1;N"1:aN}', "{#2;N#1;N}", '{"1:aN"1:aN}', "{#1;N#1;N}", '{"2:aaN"1:bN}',
)


class DataCase(unittest.TestCase):
    def refuses(self, text):
        with self.assertRaises(FileError, msg=text) as caught:
            read_datum(text)
        self.assertEqual(caught.exception.at, 2, text)


class Texts(DataCase):
    def test_writing_and_reading(self):
        for datum, text in ROWS:
            self.assertEqual(write_datum(datum), text)
            self.assertEqual(repr(read_datum(text)), repr(read_datum(write_datum(read_datum(text)))))
            self.assertEqual(read_datum(text), datum)

    def test_the_example_of_the_document(self):
        self.assertEqual(write_datum({"a": (1, None, "x(")}), '{"1:a(#1;N"2:x()}')

    def test_kinds_stay(self):
        for datum in (True, 1, False, 0, [True, 1], (False, 0), [[]], [()], ([],), {"a": True, "b": 1}, {1: []}):
            self.assertEqual(repr(read_datum(write_datum(datum))), repr(datum))

    def test_what_is_read_is_new(self):
        text = write_datum([[], {}])
        read_datum(text).append(5)
        read_datum(text)[0].append(5)
        self.assertEqual(read_datum(text), [[], {}])

    def test_the_argument_is_not_changed(self):
        datum = {"b": [1, {"z": 1, "a": 2}], "a": ()}
        told = repr(datum)
        write_datum(datum)
        self.assertEqual(repr(datum), told)


class Depth(DataCase):
    def nested(self, many, kind):
        datum = 5
        for _ in range(many):
            datum = {"[": [datum], "(": (datum,), "{": {"k": datum}}[kind]
        return datum

    def test_40_within_one_another(self):
        for kind in "[({":
            datum = self.nested(40, kind)
            self.assertEqual(read_datum(write_datum(datum)), datum)
            self.refuses(write_datum(self.nested(41, kind)))
            self.refuses(write_datum(self.nested(60, kind)))

    def test_empty_ones(self):
        for opening, end in ("[]", "()", "{}"):
            self.assertEqual(write_datum(read_datum("(" * 39 + opening + end + ")" * 39)),
                             "(" * 39 + opening + end + ")" * 39)
            self.refuses("(" * 40 + opening + end + ")" * 40)

    def test_beside_one_another(self):
        text = "[" + "[]" * 100 + "[" * 39 + "]" * 39 + "]"
        self.assertEqual(write_datum(read_datum(text)), text)
        self.refuses("[" + "[]" * 100 + "[" * 40 + "]" * 40 + "]")

    def test_very_deep(self):
        self.refuses("[" * 100000)
        self.refuses("(" * 100000 + ")" * 100000)


class Refused(DataCase):
    def test_broken_texts(self):
        for text in BROKEN:
            self.refuses(text)
            if text not in ("]", "[]]"):
                self.refuses("[" + text)

    def test_broken_texts_within_others(self):
        for text in BROKEN:
            # Two data are none, but they may stand in a list, as one may; nothing may stand there, too.
            if text not in ("", "NN", "TF", "]", "[]]"):
                self.refuses("[" + text + "]")

    def test_one_character_left_out(self):
        for _, text in ROWS:
            for at in range(len(text)):
                broken = text[:at] + text[at + 1:]
                self.one_or_none(broken)

    def test_one_character_changed_or_added(self):
        for _, text in ROWS:
            for at in range(len(text) + 1):
                for sign in "NTF#\"0159-;:()[]{}a \n":
                    self.one_or_none(text[:at] + sign + text[at:])
                    self.one_or_none(text[:at] + sign + text[at + 1:])

    def one_or_none(self, text):
        """A text that is read is the one that is written."""
        try:
            datum = read_datum(text)
        except FileError as error:
            self.assertEqual(error.at, 2)
        else:
            self.assertEqual(write_datum(datum), text)


if __name__ == "__main__":
    unittest.main()
