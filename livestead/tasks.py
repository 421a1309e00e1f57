"""Tasks and their frames: how a failure, a giving or a value goes from frame to frame."""

RUNNING = ("running",)
WELL = ("well",)
MOST_FRAMES = 12


class Frame:
    """One call that goes on: where it stands in its part, and what it works with.

    Home is the number of the call of the method that the frame belongs to: of its own call if it is
    a method's frame, and of the one in which the block was made if it is a block's.
    """

    def __init__(self, part, places, receiver, home):
        self.part = part
        self.at = 0
        self.stack = []
        self.places = places
        self.receiver = receiver
        self.home = home
        self.marks = []
        self.notes = []

    def is_method(self):
        return self.part.path == ()

    def mark(self, kind, at):
        """Puts a mark: its kind, where it leads, and how high the stack and the notes are."""
        self.marks.append((kind, at, len(self.stack), len(self.notes)))

    def catches(self, note):
        """Takes marks away, newest first, up to one where the frame goes on; tells whether it does.

        The note tells of a failure or of a giving; try marks catch failures alone.
        """
        while self.marks:
            kind, at, height, many = self.marks.pop()
            if kind == "keep" or note[0] == "failed":
                self.at = at
                del self.stack[height:]
                del self.notes[many:]
                if kind == "keep":
                    self.notes.append(note)
                else:
                    self.stack.append(note[1])
                return True
        return False


class Task:
    """A body that is run: its frames, the newest one last, and its outcome."""

    def __init__(self, optimized):
        self.optimized = optimized
        self.frames = []
        self.outcome = RUNNING

    def is_full(self):
        return len(self.frames) >= MOST_FRAMES

    def has_call(self, home):
        """Whether the method of a call has not been left."""
        return any([frame.is_method() and frame.home == home for frame in self.frames])

    def leave(self, value):
        """Leaves the newest frame with a value."""
        self.frames.pop()
        if self.frames:
            self.frames[-1].stack.append(value)
        else:
            self.outcome = ("done", value)

    def fail(self, value):
        note = ("failed", value)
        while self.frames:
            if self.frames[-1].catches(note):
                return
            self.frames.pop()
        self.outcome = note

    def give(self, value, home):
        """Leaves the method of a call, which goes on, with a value, through all frames above it."""
        note = ("given", value, home)
        while not self.frames[-1].catches(note):
            frame = self.frames[-1]
            if frame.is_method() and frame.home == home:
                self.leave(value)
                return
            self.frames.pop()

    def resume(self, note):
        """Goes on with what a note says."""
        if note[0] == "failed":
            self.fail(note[1])
        elif note[0] == "given":
            self.give(note[1], note[2])
