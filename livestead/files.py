"""Image files: the texts of data, and images that are saved and loaded."""

from livestead.errors import FileError
from livestead.images import image_of, world_of
from livestead.snapshots import data_of, world_of_data
from livestead.tokens import DIGITS

CONSTANTS = {"N": None, "T": True, "F": False}
MOST_DIGITS = 20
DEEPEST = 40
FACTOR = 31
MODULUS = 1000003
# What the field of a FileError tells.
NO_FILE = 0
WRONG_SUM = 1
NO_DATUM = 2


def write_datum(datum):
    """The text of a datum."""
    if datum is None:
        return "N"
    if isinstance(datum, bool):
        return "T" if datum else "F"
    if isinstance(datum, int):
        return f"#{datum};"
    if isinstance(datum, str):
        return f'"{len(datum)}:{datum}'
    if isinstance(datum, dict):
        pairs = [write_datum(key) + write_datum(datum[key]) for key in sorted(datum, key=write_datum)]
        return "{" + "".join(pairs) + "}"
    parts = "".join([write_datum(part) for part in datum])
    if isinstance(datum, tuple):
        return f"({parts})"
    return f"[{parts}]"


def read_datum(text):
    """The datum that a text tells."""
    reader = DatumReader(text)
    datum = reader.datum(0)
    if reader.at < len(text):
        reader.refuse()
    return datum


def save(image):
    """The text of a file that tells an image."""
    text = write_datum(data_of(world_of(image)))
    return f"{text}\n{_sum_of(text)}\n"


def load(text):
    """The image that the text of a file tells."""
    lines = text.split("\n")
    if len(lines) != 3 or lines[2] != "" or not _are_digits(lines[1]):
        raise FileError(NO_FILE)
    if lines[1] != str(_sum_of(lines[0])):
        raise FileError(WRONG_SUM)
    return image_of(world_of_data(read_datum(lines[0])))


def _sum_of(text):
    total = 1
    for character in text:
        total = (FACTOR * total + ord(character)) % MODULUS
    return total


def _are_digits(text):
    """Whether a text is a number in decimal digits, without a needless 0."""
    # Python's own test would also take digits beyond ASCII.
    if text == "" or not all([character in DIGITS for character in text]):
        return False
    return text == "0" or text[0] != "0"


class DatumReader:
    """Reads a datum's text from left to right, and takes only what write_datum writes."""

    def __init__(self, text):
        self.text = text
        self.at = 0

    def refuse(self):
        raise FileError(NO_DATUM)

    def sign(self):
        """The character that stands next; nothing at the end of the text."""
        return self.text[self.at:self.at + 1]

    def accept(self, sign):
        """Takes a character if it stands next, and tells whether it did."""
        if self.sign() != sign:
            return False
        self.at += 1
        return True

    def datum(self, depth):
        """Reads a datum that stands within so many lists, tuples and dicts."""
        sign = self.sign()
        self.at += 1
        if sign in CONSTANTS:
            return CONSTANTS[sign]
        if sign == "#":
            return self.number()
        if sign == '"':
            return self.string()
        if sign == "" or sign not in "([{" or depth == DEEPEST:
            self.refuse()
        if sign == "(":
            return tuple(self.parts(")", depth + 1))
        if sign == "[":
            return self.parts("]", depth + 1)
        return self.pairs(depth + 1)

    def digits(self, end):
        """Reads a number without a sign, up to the character that ends it."""
        behind = self.text.find(end, self.at, self.at + MOST_DIGITS + 1)
        if behind < 0 or not _are_digits(self.text[self.at:behind]):
            self.refuse()
        number = int(self.text[self.at:behind])
        self.at = behind + 1
        return number

    def number(self):
        if not self.accept("-"):
            return self.digits(";")
        number = self.digits(";")
        if number == 0:
            self.refuse()
        return -number

    def string(self):
        length = self.digits(":")
        found = self.text[self.at:self.at + length]
        if len(found) < length or "\n" in found:
            self.refuse()
        self.at += length
        return found

    def parts(self, end, depth):
        found = []
        while not self.accept(end):
            found.append(self.datum(depth))
        return found

    def pairs(self, depth):
        found = {}
        last = ""
        while not self.accept("}"):
            start = self.at
            if self.sign() != "#" and self.sign() != '"':
                self.refuse()
            key = self.datum(depth)
            told = self.text[start:self.at]
            # The texts of the keys ascend, so that no key stands twice.
            if told <= last:
                self.refuse()
            last = told
            found[key] = self.datum(depth)
        return found
