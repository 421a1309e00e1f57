"""Worlds as data: what is written into files, and what copies are made of."""

from livestead.objects import Block, Instance, Places
from livestead.tasks import Frame, Task
from livestead.worlds import World


def copy_of(world):
    """Another world that is in every respect as the given one."""
    other = World()
    other.journal = world.journal.copied()
    # Programs are never changed: what is compiled already may serve both worlds.
    other.programs = {source: world.programs[source] for source in world.programs}
    Unpacker(other, Packer().moment(world)).fill()
    return other


def data_of(world):
    """A world as a datum: its journal, and all else."""
    journal = world.journal
    return (journal.entries, journal.in_force, journal.undone, Packer().moment(world))


def world_of_data(data):
    """The world that a datum tells."""
    entries, in_force, undone, moment = data
    world = World()
    world.journal.refill(entries, in_force, undone)
    Unpacker(world, moment).fill()
    return world


class Packer:
    """Turns a world, but for its journal, into a datum.

    Sources and places get numbers in the order in which they are met, so that each is told once.
    """

    def __init__(self):
        self.sources = {}
        self.chains = {}
        self.links = []

    def moment(self, world):
        objects = [self.thing(number, world.things[number]) for number in sorted(world.things)]
        task = self.task(world.task)
        return {
            "calls": world.calls, "made": world.made, "named": dict(world.named),
            "held": list(world.held), "objects": objects, "task": task,
            "sources": list(self.sources), "places": self.links,
        }

    def source(self, source):
        """The number of a source; a new one gets the next number."""
        return self.sources.setdefault(source, len(self.sources))

    def chain(self, places):
        """The number of some places; those around them are told ahead of them."""
        if places is None:
            return None
        if places not in self.chains:
            around = self.chain(places.around)
            self.chains[places] = len(self.links)
            self.links.append((list(places.held), around))
        return self.chains[places]

    def part(self, part):
        return (self.source(part.source), part.path)

    def thing(self, number, thing):
        if isinstance(thing, Instance):
            return ("instance", number, thing.kind, dict(thing.filled))
        return ("block", number, self.part(thing.part), self.chain(thing.around), thing.receiver,
                thing.home)

    def task(self, task):
        if task is None:
            return None
        return (task.optimized, task.outcome, [self.frame(frame) for frame in task.frames])

    def frame(self, frame):
        return (self.part(frame.part), self.chain(frame.places), frame.receiver, frame.home,
                frame.at, list(frame.stack), list(frame.marks), list(frame.notes))


class Unpacker:
    """Fills a new world, whose journal stands already, from such a datum."""

    def __init__(self, world, moment):
        self.world = world
        self.moment = moment
        self.links = []

    def fill(self):
        world, moment = self.world, self.moment
        for held, around in moment["places"]:
            self.links.append(Places(list(held), self.chain(around)))
        world.calls = moment["calls"]
        world.made = moment["made"]
        world.named = dict(moment["named"])
        world.held = list(moment["held"])
        for told in moment["objects"]:
            world.things[told[1]] = self.thing(told)
        if moment["task"] is not None:
            optimized, outcome, frames = moment["task"]
            world.task = Task(optimized)
            world.task.outcome = outcome
            world.task.frames = [self.frame(told) for told in frames]

    def chain(self, number):
        if number is None:
            return None
        return self.links[number]

    def part(self, told):
        number, path = told
        found = self.world.program(self.moment["sources"][number])
        for k in path:
            found = found.parts[k]
        return found

    def thing(self, told):
        if told[0] == "instance":
            _, _, kind, filled = told
            return Instance(kind, dict(filled))
        _, _, part, around, receiver, home = told
        return Block(self.part(part), self.chain(around), receiver, home)

    def frame(self, told):
        part, places, receiver, home, at, stack, marks, notes = told
        frame = Frame(self.part(part), self.chain(places), receiver, home)
        frame.at = at
        frame.stack = list(stack)
        frame.marks = list(marks)
        frame.notes = list(notes)
        return frame
