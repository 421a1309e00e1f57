"""What a source text means, told without instructions."""

from livestead.errors import LivesteadError
from livestead.failures import NO_CLASS, NOT_A_TRUTH, NOT_UNDERSTOOD, TOO_DEEP, TOO_LATE
from livestead.images import image_of, world_of
from livestead.objects import Block, Instance, Places
from livestead.programs import source_of_body
from livestead.senses import sense_of_method
from livestead.snapshots import copy_of
from livestead.values import change_sign, is_truth, operate, turn_round

MOST_CALLS = 12
# Calls of methods are numbered from 1 on; one of a block stands for none of them.
NO_HOME = 0


def mean(image, text, limit):
    """What the body of a method without parameters comes to, and the image as it would be then."""
    source = source_of_body(text, False)
    world = copy_of(world_of(image))
    world.task = None
    meaning = Meaning(world, limit)
    try:
        outcome = ("done", meaning.call_method(source, [], None))
    except Failed as failed:
        outcome = ("failed", failed.worth)
    except TooLong:
        return (("long",), None)
    return (outcome, image_of(world))


class Failed(LivesteadError):
    """A part comes to a failure with a value."""

    def __init__(self, worth):
        super().__init__("a failure")
        self.worth = worth


class Given(LivesteadError):
    """A part comes to a giving of a value to the call of a method."""

    def __init__(self, worth, home):
        super().__init__("a giving")
        self.worth = worth
        self.home = home


class TooLong(LivesteadError):
    """More carryings out would be needed than are allowed."""


class Call:
    """One carrying out of a method or a block; home is the call of the method it belongs to."""

    def __init__(self, sense, places, receiver, home):
        self.sense = sense
        self.places = places
        self.receiver = receiver
        self.home = home


class Meaning:
    """Carries out expressions and statements in a world.

    What they come to is a value that is returned, or a failure or a giving that is raised. Under way
    are the calls that are going on, the outermost first.
    """

    def __init__(self, world, limit):
        self.world = world
        self.allowed = limit
        self.under_way = ()
        self.senses = {}

    def count_one(self):
        """Counts one carrying out."""
        if self.allowed <= 0:
            raise TooLong()
        self.allowed -= 1

    def value(self, tree, call):
        """Carries out an expression."""
        self.count_one()
        action = EXPRESSIONS[tree[0]]
        return action(self, tree, call)

    def carry_out(self, trees, call):
        """Carries out statements; returns the value of the last if it is an expression by itself."""
        last = None
        for tree in trees:
            self.count_one()
            action = STATEMENTS[tree[0]]
            last = action(self, tree, call)
        return last

    def put(self, place, value, call):
        """Puts a value into a place, a slot or a global name."""
        if place[0] == "local":
            call.places.out(place[1]).held[place[2]] = value
        else:
            _settled(self.world.write(place, call.receiver, value))

    def sense_of(self, source, path):
        """The sense of a method, or of a block in it, of a plain program."""
        key = (source, path)
        if key not in self.senses:
            if path:
                found = self.sense_of(source, path[:-1]).block(path[-1])
            else:
                found = sense_of_method(self.world.program(source))
            self.senses[key] = found
        return self.senses[key]

    def send(self, found, args, receiver):
        """Calls what a send has found."""
        if found is None:
            raise Failed(NOT_UNDERSTOOD)
        if len(self.under_way) >= MOST_CALLS:
            raise Failed(TOO_DEEP)
        if isinstance(found, Block):
            return self.call_block(found, args)
        text, owner, slots = found
        return self.call_method((text, owner, slots, False), args, receiver)

    def call_method(self, source, args, receiver):
        sense = self.sense_of(source, ())
        places = Places(args + [None] * (sense.part.many - len(args)), None)
        home = self.world.next_call()
        before = self.under_way
        self.under_way = before + (home,)
        try:
            self.carry_out(sense.body, Call(sense, places, receiver, home))
        except Given as given:
            if given.home != home:
                raise
            return given.worth
        finally:
            self.under_way = before
        return None

    def call_block(self, block, args):
        # The block's own code may be optimized; what its text says is told by the plain one.
        sense = self.sense_of(block.part.source[:3] + (False,), block.part.path)
        call = Call(sense, Places(args, block.around), block.receiver, block.home)
        before = self.under_way
        self.under_way = before + (NO_HOME,)
        try:
            return self.carry_out(sense.body, call)
        finally:
            self.under_way = before


def _settled(result):
    """The value of a result that is told as operate does; or the failure."""
    if result[0] == "failure":
        raise Failed(result[1])
    return result[1]


def _truth(value):
    """A value that must be True or False."""
    if not is_truth(value):
        raise Failed(NOT_A_TRUTH)
    return value


def _plain(_meaning, tree, _call):
    return tree[1]


def _self(_meaning, _tree, call):
    return call.receiver


def _local(_meaning, tree, call):
    return call.places.out(tree[1]).held[tree[2]]


def _read(meaning, tree, call):
    return _settled(meaning.world.read(tree, call.receiver))


def _new(meaning, tree, _call):
    if not meaning.world.has_class(tree[1]):
        raise Failed(NO_CLASS)
    return meaning.world.admit(Instance(tree[1], {}))


def _block(meaning, tree, call):
    part = call.sense.part.parts[tree[1]]
    return meaning.world.admit(Block(part, call.places, call.receiver, call.home))


def _neg(meaning, tree, call):
    return _settled(change_sign(meaning.value(tree[1], call)))


def _not(meaning, tree, call):
    return _settled(turn_round(meaning.value(tree[1], call)))


def _op(meaning, tree, call):
    left = meaning.value(tree[2], call)
    right = meaning.value(tree[3], call)
    return _settled(operate(tree[1], left, right))


def _and(meaning, tree, call):
    if not _truth(meaning.value(tree[1], call)):
        return False
    return _truth(meaning.value(tree[2], call))


def _or(meaning, tree, call):
    if _truth(meaning.value(tree[1], call)):
        return True
    return _truth(meaning.value(tree[2], call))


def _send(meaning, tree, call):
    receiver = meaning.value(tree[1], call)
    args = []
    for part in tree[3]:
        args.append(meaning.value(part, call))
    return meaning.send(meaning.world.found(receiver, tree[2], len(args)), args, receiver)


def _super(meaning, tree, call):
    args = []
    for part in tree[2]:
        args.append(meaning.value(part, call))
    owner = call.sense.part.source[1]
    found = meaning.world.found_above(owner, tree[1], len(args))
    return meaning.send(found, args, call.receiver)


def _set(meaning, tree, call):
    meaning.put(tree[1], meaning.value(tree[2], call), call)


def _give(meaning, tree, call):
    value = meaning.value(tree[1], call)
    if call.home not in meaning.under_way:
        raise Failed(TOO_LATE)
    raise Given(value, call.home)


def _fail(meaning, tree, call):
    raise Failed(meaning.value(tree[1], call))


def _eval(meaning, tree, call):
    return meaning.value(tree[1], call)


def _while(meaning, tree, call):
    while _truth(meaning.value(tree[1], call)):
        meaning.carry_out(tree[2], call)


def _if(meaning, tree, call):
    if _truth(meaning.value(tree[1], call)):
        meaning.carry_out(tree[2], call)
    else:
        meaning.carry_out(tree[3], call)


def _try(meaning, tree, call):
    try:
        meaning.carry_out(tree[1], call)
        return
    except Failed as failed:
        worth = failed.worth
    meaning.put(tree[2], worth, call)
    meaning.carry_out(tree[3], call)


def _keep(meaning, tree, call):
    failure, giving = (), ()
    try:
        meaning.carry_out(tree[1], call)
    except Failed as failed:
        failure = (failed.worth,)
    except Given as given:
        giving = (given.worth, given.home)
    meaning.carry_out(tree[2], call)
    if failure:
        raise Failed(failure[0])
    if giving:
        raise Given(giving[0], giving[1])


EXPRESSIONS = {
    "plain": _plain, "self": _self, "local": _local, "slot": _read, "global": _read, "new": _new,
    "neg": _neg, "not": _not, "op": _op, "and": _and, "or": _or, "send": _send, "super": _super,
    "block": _block,
}
STATEMENTS = {
    "set": _set, "give": _give, "fail": _fail, "eval": _eval, "while": _while, "if": _if,
    "try": _try, "keep": _keep,
}
