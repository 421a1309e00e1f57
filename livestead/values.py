"""What the signs between two values, and those ahead of one, come to."""

from livestead.failures import BY_NOTHING, NOT_A_TRUTH, TOO_LARGE, WRONG_KIND
from livestead.tokens import GREATEST_NUMBER, LONGEST_TEXT


def operate(sign, left, right):
    """What a sign makes of two values: ("value", v), or ("failure", text)."""
    if sign == "=":
        return ("value", _are_equal(left, right))
    if _is_number(left) and _is_number(right):
        return _with_numbers(sign, left, right)
    if isinstance(left, str) and isinstance(right, str):
        return _with_texts(sign, left, right)
    return ("failure", WRONG_KIND)


def change_sign(value):
    """What the minus ahead of a value makes of it, told as operate does."""
    if _is_number(value):
        return ("value", -value)
    return ("failure", WRONG_KIND)


def turn_round(value):
    """What `not` makes of a value, told as operate does."""
    if is_truth(value):
        return ("value", not value)
    return ("failure", NOT_A_TRUTH)


def is_truth(value):
    return isinstance(value, bool)


def is_object(value):
    """Whether a value is an object: all others are plain values."""
    return isinstance(value, tuple)


def _are_equal(left, right):
    # Python itself takes 1 for True, and 0 for False.
    return is_truth(left) == is_truth(right) and left == right


def _is_number(value):
    return isinstance(value, int) and not is_truth(value)


def _with_numbers(sign, left, right):
    if sign == "<":
        return ("value", left < right)
    if sign == "<=":
        return ("value", left <= right)
    if sign == "/" and right == 0:
        return ("failure", BY_NOTHING)
    number = _calculated(sign, left, right)
    if abs(number) > GREATEST_NUMBER:
        return ("failure", TOO_LARGE)
    return ("value", number)


def _calculated(sign, left, right):
    if sign == "+":
        return left + right
    if sign == "-":
        return left - right
    if sign == "*":
        return left * right
    return left // right


def _with_texts(sign, left, right):
    if sign == "<":
        return ("value", left < right)
    if sign == "<=":
        return ("value", left <= right)
    if sign != "+":
        return ("failure", WRONG_KIND)
    if len(left) + len(right) > LONGEST_TEXT:
        return ("failure", TOO_LARGE)
    return ("value", left + right)
