"""Classes with their slots and methods, as changes make them one after the other."""

from livestead.reading import read_method

THING = "Thing"
MOST_SLOTS = 8
MOST_CLASSES = 20


def selector_of(name, many):
    """The text by which a method of a name with so many parameters is found."""
    return f"{name}/{many}"


def entry_of(change):
    """A change as the definitions take it: that of a method has the method's selector, too."""
    if change[0] != "method":
        return change
    tree = read_method(change[2])
    return ("method", change[1], selector_of(tree[1], len(tree[2])), change[2])


def change_of(entry):
    """The change that an entry was made of."""
    if entry[0] != "method":
        return entry
    return ("method", entry[1], entry[3])


class Definition:
    """One class: the name of the class above it, its own slots and the texts of its own methods."""

    def __init__(self, base, slots):
        self.base = base
        self.slots = list(slots)
        self.texts = {}


class Definitions:
    """All classes, by their names."""

    def __init__(self):
        self.known = {THING: Definition(None, ())}

    def line(self, name):
        """The names of a class and of all classes above it, up to Thing."""
        found = []
        while name is not None:
            found.append(name)
            name = self.known[name].base
        return found

    def all_slots(self, name):
        """The slots of a class, those of the classes above it first."""
        found = ()
        for one in self.line(name):
            found = tuple(self.known[one].slots) + found
        return found

    def has_slot(self, name, slot):
        """Whether there is a class of this name that has this slot."""
        return name in self.known and slot in self.all_slots(name)

    def owner_of(self, name, selector):
        """The first class, from a class on upward, that has a method; None if there is none."""
        if name not in self.known:
            return None
        for one in self.line(name):
            if selector in self.known[one].texts:
                return one
        return None

    def refuses(self, entry):
        """Whether a change cannot be made as things stand."""
        word, name = entry[0], entry[1]
        if word == "class":
            return self.refuses_class(name, entry[2], entry[3])
        if name not in self.known:
            return True
        if word == "no class":
            return name == THING or self.has_class_below(name)
        if word == "slot":
            return self.refuses_slot(name, entry[2])
        if word == "no slot":
            return entry[2] not in self.known[name].slots
        if word == "method":
            return name == THING
        return entry[2] not in self.known[name].texts

    def refuses_class(self, name, base, slots):
        if name in self.known or base not in self.known:
            return True
        if len(self.known) == MOST_CLASSES or len(slots) > MOST_SLOTS:
            return True
        return len(set(slots)) < len(slots) or any([self.has_slot(base, slot) for slot in slots])

    def refuses_slot(self, name, slot):
        if name == THING or len(self.known[name].slots) == MOST_SLOTS:
            return True
        return self.has_slot(name, slot) or self.is_slot_below(name, slot)

    def has_class_below(self, name):
        return any([one.base == name for one in self.known.values()])

    def is_slot_below(self, name, slot):
        """Whether a class below has a slot of its own with this name."""
        below = [one for one in self.known if name in self.line(one)]
        return any([slot in self.known[one].slots for one in below])

    def carry_out(self, entry):
        """Makes a change that is not refused."""
        word, name = entry[0], entry[1]
        if word == "class":
            self.known[name] = Definition(entry[2], entry[3])
        elif word == "no class":
            del self.known[name]
        elif word == "slot":
            self.known[name].slots.append(entry[2])
        elif word == "no slot":
            self.known[name].slots.remove(entry[2])
        elif word == "method":
            self.known[name].texts[entry[2]] = entry[3]
        else:
            del self.known[name].texts[entry[2]]
