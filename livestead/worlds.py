"""All that an image is made of, and what can be read, put and found in it."""

from livestead.collecting import collect
from livestead.definitions import selector_of
from livestead.failures import NO_GLOBAL, NO_SLOT
from livestead.journal import Journal
from livestead.objects import Block, Instance
from livestead.programs import program_of
from livestead.values import is_object

MOST_OBJECTS = 60


class World:
    """Definitions, objects, global names, held values and the task of one image.

    Calls of methods are numbered over all tasks, so that a block never takes a call of a later task
    for the one that it belongs to. Programs are kept only to compile nothing twice.
    """

    def __init__(self):
        self.journal = Journal()
        self.things = {}
        self.made = 0
        self.calls = 0
        self.named = {}
        self.held = []
        self.task = None
        self.programs = {}

    def thing(self, value):
        """The instance or the block that a value stands for; None for a plain value."""
        if is_object(value):
            return self.things[value[1]]
        return None

    def admit(self, thing):
        """Gives the next number to a new object, and returns the object as a value."""
        self.made += 1
        self.things[self.made] = thing
        return ("object", self.made)

    def has_room(self):
        """Whether there may be one more object, once garbage is collected if it must be."""
        if len(self.things) >= MOST_OBJECTS:
            collect(self)
        return len(self.things) < MOST_OBJECTS

    def hold(self, value):
        if is_object(value) and value not in self.held:
            self.held.append(value)

    def next_call(self):
        """The number of a new call of a method."""
        self.calls += 1
        return self.calls

    def program(self, source):
        """The program of a source (see Part), compiled if there is none yet."""
        if source not in self.programs:
            self.programs[source] = program_of(source)
        return self.programs[source]

    def has_class(self, name):
        return name in self.journal.definitions.known

    def has_slot(self, receiver, slot):
        """Whether a receiver is an instance whose class is there and has a slot."""
        thing = self.thing(receiver)
        return isinstance(thing, Instance) and self.journal.definitions.has_slot(thing.kind, slot)

    def read(self, place, receiver):
        """What stands in a slot of a receiver or in a global name, told as operate does."""
        word, name = place
        if word == "global":
            if name not in self.named:
                return ("failure", NO_GLOBAL)
            return ("value", self.named[name])
        if not self.has_slot(receiver, name):
            return ("failure", NO_SLOT)
        return ("value", self.thing(receiver).filled.get(name, None))

    def write(self, place, receiver, value):
        """Puts a value into a slot of a receiver or into a global name, and returns it likewise."""
        word, name = place
        if word == "global":
            self.named[name] = value
        elif self.has_slot(receiver, name):
            self.thing(receiver).filled[name] = value
        else:
            return ("failure", NO_SLOT)
        return ("value", value)

    def found(self, receiver, name, many):
        """What a send calls: a block, or the text of a method, its owner and the owner's slots.

        None if the receiver does not understand the send.
        """
        thing = self.thing(receiver)
        if isinstance(thing, Instance):
            return self.found_from(thing.kind, name, many)
        if isinstance(thing, Block) and name == "call" and many == thing.part.many:
            return thing
        return None

    def found_above(self, owner, name, many):
        """The same for a send with super in a method that was compiled for a class."""
        if not self.has_class(owner):
            return None
        return self.found_from(self.journal.definitions.known[owner].base, name, many)

    def found_from(self, kind, name, many):
        """The same for the methods of a class and of the classes above it."""
        definitions = self.journal.definitions
        selector = selector_of(name, many)
        owner = definitions.owner_of(kind, selector)
        if owner is None:
            return None
        return (definitions.known[owner].texts[selector], owner, definitions.all_slots(owner))
