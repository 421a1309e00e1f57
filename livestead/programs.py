"""Methods as the machine runs them, with a part for each block that stands in them."""

from livestead.codes import compile_method
from livestead.definitions import THING
from livestead.errors import SourceError
from livestead.optimizing import optimize
from livestead.reading import read_method


class Part:
    """The code of a method, or of a block in it, and where it comes from.

    The source is what the method was compiled from: its text, the class that it was compiled for,
    the slots of this class, and whether it was optimized. The path tells which block of the method
    this is: the number of a block among those that stand directly in the method, the number of one
    among those that stand directly in this one, and so on; it is empty for the method itself.
    """

    def __init__(self, source, path, code):
        _, places, instructions, blocks = code
        self.source = source
        self.path = path
        self.many = places
        self.instructions = instructions
        # The optimizer keeps all blocks: the numbers are the same in plain and in optimized code.
        self.parts = [Part(source, path + (k,), block) for k, block in enumerate(blocks)]


def program_of(source):
    """The part that stands for the whole method of a source."""
    text, owner, slots, optimized = source
    code = compile_method(read_method(text), owner=owner, slots=slots)
    if optimized:
        code = optimize(code)
    return Part(source, (), code)


def source_of_body(text, optimized):
    """The source of a task's body, which is told as a method of Thing without parameters."""
    if read_method(text)[2]:
        raise SourceError(0)
    return (text, THING, (), optimized)
