"""The tokens of a source text."""

from livestead.errors import SourceError

WORDS = (
    "method", "var", "end", "give", "fail", "if", "then", "else", "while", "do", "try", "catch",
    "keep", "always", "none", "true", "false", "self", "super", "new", "not", "and", "or",
)
# The two marks of two characters stand first: the longest mark that fits is taken.
MARKS = (":=", "<=", "(", ")", "{", "}", ",", ";", ".", "|", "=", "<", "+", "-", "*", "/")
SMALL = "abcdefghijklmnopqrstuvwxyz"
CAPITAL = "ABCDEFGHIJKLMNOPQRSTUVWXYZ"
DIGITS = "0123456789"
QUOTE = "'"
# The percent sign is told by its code, since no string of the package may contain it.
PERCENT = 37
LONGEST_NAME = 20
LONGEST_TEXT = 200
GREATEST_NUMBER = 1000000000
MOST_DIGITS = 10


def tokenize(text):
    """The list of the tokens of a text: tuples of kind, value and position."""
    tokens = []
    at = 0
    while at < len(text):
        if text[at] == " ":
            at += 1
        else:
            kind, value, end = _token_at(text, at)
            tokens.append((kind, value, at))
            at = end
    return tokens


def _token_at(text, at):
    """The kind and the value of the token that begins at a position, and the position behind it."""
    if text[at] == QUOTE:
        end = _end_of_text(text, at)
        return "text", text[at + 1:end - 1], end
    if _is_letter_or_digit(text[at]):
        end = _end_of_run(text, at)
        kind, value = _token_of_run(text[at:end], at)
        return kind, value, end
    mark = _mark_at(text, at)
    return "mark", mark, at + len(mark)


def _end_of_text(text, at):
    """The position behind the second quote of the text token that begins at a position."""
    end = text.find(QUOTE, at + 1)
    if end < 0 or end - at - 1 > LONGEST_TEXT:
        raise SourceError(at)
    for character in text[at + 1:end]:
        if not _is_source_character(character):
            raise SourceError(at)
    return end + 1


def _is_source_character(character):
    return " " <= character and character <= "~" and ord(character) != PERCENT


def _is_letter_or_digit(character):
    # Python's own tests would also take letters and digits beyond ASCII.
    return character in SMALL or character in CAPITAL or character in DIGITS


def _end_of_run(text, at):
    """The position behind the letters and digits that follow each other from a position on."""
    end = at
    while end < len(text) and _is_letter_or_digit(text[end]):
        end += 1
    return end


def _token_of_run(run, at):
    """The kind and the value of a token of letters and digits that begins at the position at."""
    if run[0] in DIGITS:
        return "number", _number_of(run, at)
    if len(run) > LONGEST_NAME:
        raise SourceError(at)
    if run[0] in CAPITAL:
        return "class", run
    if run in WORDS:
        return "word", run
    return "name", run


def _number_of(run, at):
    if not run.isdigit() or (run[0] == "0" and len(run) > 1):
        raise SourceError(at)
    # Python itself refuses to read numbers of thousands of digits: the length is asked first.
    if len(run) > MOST_DIGITS or int(run) > GREATEST_NUMBER:
        raise SourceError(at)
    return int(run)


def _mark_at(text, at):
    for mark in MARKS:
        if text.startswith(mark, at):
            return mark
    raise SourceError(at)
