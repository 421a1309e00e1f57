"""The journal: all changes that were ever made, and what those in force make."""

from livestead.definitions import Definitions, change_of, entry_of
from livestead.errors import ChangeRefused

MOST_CHANGES = 60
# The field of a refusal where there is no change that could be undone, made again or taken out.
NO_CHANGE = -1


class Journal:
    """The changes by their numbers, which of them are in force, and what was undone last.

    The changes are kept as entries, so that no text is read again when they are made anew. The
    definitions are what the changes in force make, from Thing alone.
    """

    def __init__(self):
        self.entries = []
        self.in_force = []
        self.undone = []
        self.definitions = Definitions()

    def make(self, change):
        """Makes a new change and returns its number."""
        # Errors of a method's text come ahead of all refusals.
        entry = entry_of(change)
        number = len(self.entries)
        if number >= MOST_CHANGES or self.definitions.refuses(entry):
            raise ChangeRefused(number)
        self.definitions.carry_out(entry)
        self.entries.append(entry)
        self.in_force.append(True)
        self.undone = []
        return number

    def told(self):
        """The changes as pairs: a change, and whether it is in force."""
        return [(change_of(entry), flag) for entry, flag in zip(self.entries, self.in_force)]

    def undo(self):
        """Takes the newest change in force out of force and returns its number."""
        standing = [number for number, flag in enumerate(self.in_force) if flag]
        if not standing:
            raise ChangeRefused(NO_CHANGE)
        self.switch(standing[-1], False)
        self.undone.append(standing[-1])
        return standing[-1]

    def redo(self):
        """Puts what was undone last in force again and returns its number."""
        if not self.undone:
            raise ChangeRefused(NO_CHANGE)
        self.switch(self.undone[-1], True)
        return self.undone.pop()

    def take_out(self, number):
        """Takes a change out of force, wherever it stands."""
        if number not in range(len(self.entries)) or not self.in_force[number]:
            raise ChangeRefused(NO_CHANGE)
        self.switch(number, False)
        self.undone = []

    def switch(self, number, flag):
        """Puts a change in force or out of force, if all changes then in force can be made."""
        in_force = list(self.in_force)
        in_force[number] = flag
        self.definitions = self.made_of(in_force)
        self.in_force = in_force

    def made_of(self, in_force):
        """What the changes make that are marked to be in force."""
        definitions = Definitions()
        for number, entry in enumerate(self.entries):
            if in_force[number]:
                if definitions.refuses(entry):
                    raise ChangeRefused(number)
                definitions.carry_out(entry)
        return definitions

    def refill(self, entries, in_force, undone):
        """Takes over what another journal held."""
        self.entries = list(entries)
        self.in_force = list(in_force)
        self.undone = list(undone)
        self.definitions = self.made_of(self.in_force)

    def copied(self):
        """Another journal that holds the same."""
        other = Journal()
        other.refill(self.entries, self.in_force, self.undone)
        return other
