"""Images: living objects, their classes and global names, and the task that runs among them."""

from livestead.collecting import collect
from livestead.machine import begin, go
from livestead.objects import Block
from livestead.worlds import World


def world_of(image):
    """All that an image is made of, for the other tools of the package."""
    return image._world


def image_of(world):
    """An image that is made of what is given."""
    image = Image()
    image._world = world
    return image


class Image:
    """A living image; everything that is handed out may be changed by the caller."""

    def __init__(self):
        self._world = World()

    def make(self, change):
        """Makes a change of the definitions and returns its number."""
        return self._world.journal.make(change)

    def undo(self):
        """Undoes the newest change in force and returns its number."""
        return self._world.journal.undo()

    def redo(self):
        """Makes the change that was undone last again and returns its number."""
        return self._world.journal.redo()

    def take_out(self, number):
        """Takes a change out of force, wherever it stands."""
        self._world.journal.take_out(number)

    def changes(self):
        """All changes by their numbers, as pairs: the change, and whether it is in force."""
        return self._world.journal.told()

    def classes(self):
        """The names of all classes, in ascending order."""
        return sorted(self._known())

    def base_of(self, name):
        """The name of the class above a class; None for Thing."""
        return self._known()[name].base

    def slots_of(self, name):
        """The slots of a class: those of the classes above it, and then its own."""
        if name not in self._known():
            raise KeyError(name)
        return self._world.journal.definitions.all_slots(name)

    def selectors_of(self, name):
        """The selectors of a class's own methods, in ascending order."""
        return sorted(self._known()[name].texts)

    def text_of(self, name, selector):
        """The text of a class's own method."""
        return self._known()[name].texts[selector]

    def put(self, name, value):
        """Puts a value into a global name."""
        self._world.named[name] = value

    def global_values(self):
        """The values of the global names into which something was put."""
        return dict(self._world.named)

    def hold(self, value):
        """Keeps a value from being collected."""
        self._world.hold(value)

    def let_go(self):
        """Ends the holding of all values."""
        self._world.held = []

    def objects(self):
        """The numbers of all objects, in ascending order."""
        return sorted(self._world.things)

    def look(self, number):
        """What an object is: an instance, its class and its slots; or a block and its parameters."""
        thing = self._world.things[number]
        if isinstance(thing, Block):
            return ("block", thing.part.many)
        return ("instance", thing.kind, tuple(sorted(thing.filled.items())))

    def collect(self):
        """Removes the objects that cannot be reached, and returns how many these were."""
        return collect(self._world)

    def start(self, text, *, optimized=False):
        """Starts a task that runs the body of a method without parameters."""
        begin(self._world, text, optimized)

    def advance(self, number):
        """Makes at most so many steps of the task, and returns how many were made."""
        return go(self._world, number)

    def state(self):
        """Whether the task is running, done, failed (with which value), or never was started."""
        if self._world.task is None:
            return ("none",)
        return self._world.task.outcome

    def depth(self):
        """The number of frames of the task."""
        if self._world.task is None:
            return 0
        return len(self._world.task.frames)

    def _known(self):
        return self._world.journal.definitions.known
