"""The collector: removes the objects that cannot be reached."""

from livestead.objects import Block
from livestead.values import is_object


def collect(world):
    """Removes garbage and tells how many objects were removed."""
    search = Search(world.things)
    search.each(list(world.named.values()))
    search.each(world.held)
    if world.task is not None:
        search.task(world.task)
    search.go_on()
    garbage = [number for number in world.things if number not in search.found]
    for number in garbage:
        del world.things[number]
    return len(garbage)


class Search:
    """Finds the objects that can be reached from some values."""

    def __init__(self, things):
        self.things = things
        self.found = {}
        self.passed = {}
        self.waiting = []

    def value(self, value):
        if is_object(value) and value[1] not in self.found:
            self.found[value[1]] = True
            self.waiting.append(value[1])

    def each(self, worths):
        for value in worths:
            self.value(value)

    def outward(self, places):
        """Goes through places and all those around them."""
        while places is not None and places not in self.passed:
            self.passed[places] = True
            self.each(places.held)
            places = places.around

    def task(self, task):
        # An outcome has a value as soon as the task is at its end, and then there are no frames.
        self.each(task.outcome[1:])
        for frame in task.frames:
            self.value(frame.receiver)
            self.each(frame.stack)
            self.outward(frame.places)
            # A note that all is well has no value.
            for note in frame.notes:
                self.each(note[1:2])

    def go_on(self):
        """Goes on from the objects that were found until no more are found."""
        while self.waiting:
            thing = self.things[self.waiting.pop()]
            if isinstance(thing, Block):
                self.value(thing.receiver)
                self.outward(thing.around)
            else:
                self.each(list(thing.filled.values()))
