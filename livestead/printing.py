"""The printed forms of methods and expressions."""

from livestead.reading import COMPARING, LEVELS_AHEAD, LEVELS_BEHIND, LOOSEST, TIGHTEST


def print_method(tree):
    """The printed form of a method."""
    _, name, params, variables, body = tree
    words = ["method", name + _in_brackets(", ".join(params))]
    if variables:
        words.extend(["var", ", ".join(variables) + ";"])
    return _spaced([*words, _body(body), "end"])


def print_expression(tree):
    """The printed form of an expression."""
    kind = tree[0]
    if kind == "plain":
        return _plain(tree[1])
    if kind == "name":
        return tree[1]
    if kind == "new":
        return f"new {tree[1]}"
    if kind == "neg":
        return "-" + _in_place(tree[1], LEVELS_AHEAD["-"])
    if kind == "not":
        return "not " + _in_place(tree[1], LEVELS_AHEAD["not"])
    if kind == "op":
        return _with_sign(tree[1], tree[2], tree[3])
    if kind == "and" or kind == "or":
        return _with_sign(kind, tree[1], tree[2])
    if kind == "send":
        return _sent(_in_place(tree[1], LEVELS_BEHIND["."]), tree[2], tree[3])
    if kind == "super":
        return _sent("super", tree[1], tree[2])
    if kind == "block":
        return _block(tree[1], tree[2])
    return "self"


def _level(tree):
    """The level of an expression."""
    kind = tree[0]
    if kind == "op":
        return LEVELS_BEHIND[tree[1]]
    if kind == "and" or kind == "or":
        return LEVELS_BEHIND[kind]
    if kind == "not":
        return LEVELS_AHEAD["not"]
    if kind == "neg":
        return LEVELS_AHEAD["-"]
    if kind == "send":
        return LEVELS_BEHIND["."]
    return TIGHTEST


def _in_place(tree, place):
    """The printed form of an expression in a place that asks for a level."""
    text = print_expression(tree)
    if _level(tree) < place:
        return _in_brackets(text)
    return text


def _in_brackets(text):
    return f"({text})"


def _spaced(words):
    """The words with one space between them; what has no characters is left out."""
    return " ".join([word for word in words if word != ""])


def _plain(value):
    if value is None:
        return "none"
    if value is True:
        return "true"
    if value is False:
        return "false"
    if isinstance(value, str):
        return f"'{value}'"
    return str(value)


def _with_sign(sign, left, right):
    level = LEVELS_BEHIND[sign]
    # Signs that compare do not group: both of their sides ask for something tighter.
    place = level + 1 if level == COMPARING else level
    return f"{_in_place(left, place)} {sign} {_in_place(right, level + 1)}"


def _sent(receiver, name, args):
    texts = [_in_place(part, LOOSEST) for part in args]
    return f"{receiver}.{name}" + _in_brackets(", ".join(texts))


def _block(params, body):
    head = ""
    if params:
        head = ", ".join(params) + " | "
    return "{" + head + _body(body) + "}"


def _body(body):
    return "; ".join([_statement(part) for part in body])


def _statement(tree):
    kind = tree[0]
    if kind == "set":
        return f"{tree[1]} := {print_expression(tree[2])}"
    if kind == "give" or kind == "fail":
        return f"{kind} {print_expression(tree[1])}"
    if kind == "while":
        return _spaced(["while", print_expression(tree[1]), "do", _body(tree[2]), "end"])
    if kind == "if":
        return _choice(tree[1], tree[2], tree[3])
    if kind == "try":
        return _spaced(["try", _body(tree[1]), "catch", tree[2], "then", _body(tree[3]), "end"])
    if kind == "keep":
        return _spaced(["keep", _body(tree[1]), "always", _body(tree[2]), "end"])
    return print_expression(tree[1])


def _choice(test, body, other):
    words = ["if", print_expression(test), "then", _body(body)]
    if other:
        words.extend(["else", _body(other)])
    return _spaced([*words, "end"])
