"""What an image's objects hold, and the places that blocks and frames have."""


class Places:
    """The values in the places of one method or block, and the places around it, if any."""

    def __init__(self, held, around):
        self.held = held
        self.around = around

    def out(self, up):
        """The places that lie so many blocks further out."""
        found = self
        for _ in range(up):
            found = found.around
        return found


class Instance:
    """An instance of a class; filled is what was put into its slots, hidden ones too."""

    def __init__(self, kind, filled):
        self.kind = kind
        self.filled = filled


class Block:
    """A block: its part of a program, the places around it, and the receiver of its method.

    Home is the number of the call of the method that the block belongs to.
    """

    def __init__(self, part, around, receiver, home):
        self.part = part
        self.around = around
        self.receiver = receiver
        self.home = home
