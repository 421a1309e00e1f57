"""Trips through the time of a task."""

from livestead.errors import TaskError
from livestead.images import image_of, world_of
from livestead.machine import go
from livestead.snapshots import copy_of


class Trip:
    """Goes forward and back through the steps of a task, in a copy of its image.

    To go back is to begin at the start once more: what the image is hangs on the steps alone.
    """

    def __init__(self, image):
        if world_of(image).task is None:
            raise TaskError()
        self._start = copy_of(world_of(image))
        self._now = copy_of(self._start)
        self._made = 0

    def going(self, number):
        """Makes steps, and returns how many were made."""
        made = go(self._now, number)
        self._made += made
        return made

    def back(self, number):
        """Goes steps back, at most to the start, and returns how many these were."""
        gone = min(number, self._made)
        self._made -= gone
        self._now = copy_of(self._start)
        go(self._now, self._made)
        return gone

    def steps(self):
        """The steps from the start to where the trip is."""
        return self._made

    def here(self):
        """A copy of the image as it is where the trip is."""
        return image_of(copy_of(self._now))
