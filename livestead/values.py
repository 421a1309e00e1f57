"""What the signs between two values come to."""

from livestead.tokens import GREATEST_NUMBER, LONGEST_TEXT

WRONG_KIND = "wrong kind"
BY_NOTHING = "by nothing"
TOO_LARGE = "too large"


def operate(sign, left, right):
    """What a sign makes of two values: ("value", v), or ("failure", text)."""
    if sign == "=":
        return ("value", _are_equal(left, right))
    if _is_number(left) and _is_number(right):
        return _with_numbers(sign, left, right)
    if isinstance(left, str) and isinstance(right, str):
        return _with_texts(sign, left, right)
    return ("failure", WRONG_KIND)


def _are_equal(left, right):
    # Python itself takes 1 for True, and 0 for False.
    return isinstance(left, bool) == isinstance(right, bool) and left == right


def _is_number(value):
    return isinstance(value, int) and not isinstance(value, bool)


def _with_numbers(sign, left, right):
    if sign == "<":
        return ("value", left < right)
    if sign == "<=":
        return ("value", left <= right)
    if sign == "/" and right == 0:
        return ("failure", BY_NOTHING)
    number = _calculated(sign, left, right)
    if abs(number) > GREATEST_NUMBER:
        return ("failure", TOO_LARGE)
    return ("value", number)


def _calculated(sign, left, right):
    if sign == "+":
        return left + right
    if sign == "-":
        return left - right
    if sign == "*":
        return left * right
    return left // right


def _with_texts(sign, left, right):
    if sign == "<":
        return ("value", left < right)
    if sign == "<=":
        return ("value", left <= right)
    if sign != "+":
        return ("failure", WRONG_KIND)
    if len(left) + len(right) > LONGEST_TEXT:
        return ("failure", TOO_LARGE)
    return ("value", left + right)
