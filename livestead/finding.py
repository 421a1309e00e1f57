"""Finding and renaming of sends and methods."""

from livestead.definitions import selector_of
from livestead.errors import ChangeRefused, RenameRefused
from livestead.images import world_of
from livestead.journal import MOST_CHANGES
from livestead.printing import print_method
from livestead.reading import read_method

# Blocks understand this name, whatever methods there are.
CALL = "call"


def senders(image, name, count):
    """The methods that send a name with so many arguments: pairs of class and selector."""
    found = []
    for owner, selector in _methods(image):
        if _sends(read_method(image.text_of(owner, selector))[4], name, count):
            found.append((owner, selector))
    return found


def rename(image, name, other, count):
    """Renames the methods of a name with so many parameters, and all that is sent to them.

    Returns the numbers of the changes that this needs.
    """
    old, new = selector_of(name, count), selector_of(other, count)
    selectors = [selector for _, selector in _methods(image)]
    if CALL in (name, other) or old not in selectors or new in selectors:
        raise RenameRefused()
    if senders(image, other, count):
        raise RenameRefused()
    changes = _changes(image, name, other, count)
    journal = world_of(image).journal
    if len(journal.entries) + len(changes) > MOST_CHANGES:
        raise ChangeRefused(MOST_CHANGES)
    return [journal.make(change) for change in changes]


def rename_text(text, name, other, count):
    """The printed form of a method in whose text the sends of a name are renamed."""
    _, own, params, variables, body = read_method(text)
    return print_method(("method", own, params, variables, _renamed(body, name, other, count)))


def _methods(image):
    """All methods of an image, as pairs of class and selector, in ascending order."""
    return [(owner, selector) for owner in image.classes() for selector in image.selectors_of(owner)]


def _changes(image, name, other, count):
    """The changes that a renaming makes."""
    found = []
    sending = senders(image, name, count)
    for owner, selector in _methods(image):
        _, own, params, variables, body = read_method(image.text_of(owner, selector))
        body = _renamed(body, name, other, count)
        if selector == selector_of(name, count):
            text = print_method(("method", other, params, variables, body))
            found.extend([("method", owner, text), ("no method", owner, selector)])
        elif (owner, selector) in sending:
            text = print_method(("method", own, params, variables, body))
            found.append(("method", owner, text))
    return found


def _is_send(tree, name, count):
    """Whether a tree is a send of a name with so many arguments, with or without super."""
    if tree[:1] == ("send",):
        return tree[2] == name and len(tree[3]) == count
    return tree[:1] == ("super",) and tree[1] == name and len(tree[2]) == count


def _sends(tree, name, count):
    """Whether such a send stands anywhere in a tree, or in a tuple of trees."""
    if tree[:1] == ("block",):
        # The names of a block's parameters are no trees, whatever they are called.
        return _sends(tree[2], name, count)
    if _is_send(tree, name, count):
        return True
    return any([_sends(part, name, count) for part in tree if isinstance(part, tuple)])


def _renamed(tree, name, other, count):
    """A tree, or a tuple of trees, with another name in all such sends."""
    if tree[:1] == ("block",):
        return ("block", tree[1], _renamed(tree[2], name, other, count))
    parts = list(tree)
    for k, part in enumerate(tree):
        if isinstance(part, tuple):
            parts[k] = _renamed(part, name, other, count)
    if _is_send(tree, name, count):
        # In both kinds of sends the name stands right ahead of the arguments.
        parts[-2] = other
    return tuple(parts)
