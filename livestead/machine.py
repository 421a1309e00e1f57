"""The machine: starts tasks and carries out their instructions, one in each step."""

from livestead.errors import TaskError
from livestead.failures import NO_CLASS, NO_MEMORY, NOT_A_TRUTH, NOT_UNDERSTOOD, TOO_DEEP, TOO_LATE
from livestead.objects import Block, Instance, Places
from livestead.programs import source_of_body
from livestead.tasks import WELL, Frame, Task
from livestead.values import change_sign, is_truth, operate, turn_round


def begin(world, text, optimized):
    """Starts a task that runs the body of a method without parameters."""
    source = source_of_body(text, optimized)
    if world.task is not None and world.task.frames:
        raise TaskError()
    # Programs of earlier tasks are forgotten, so that their number does not grow for ever.
    world.programs = {}
    world.task = Task(optimized)
    _enter_method(world, source, [], None)


def go(world, number):
    """Makes at most so many steps, and tells how many it made."""
    task = world.task
    if task is None:
        raise TaskError()
    made = 0
    while made < number and task.frames:
        frame = task.frames[-1]
        instruction = frame.part.instructions[frame.at]
        frame.at += 1
        action = ACTIONS[instruction[0]]
        action(world, frame, instruction)
        made += 1
    return made


def _enter_method(world, source, args, receiver):
    """Puts a frame for a method; the places of its variables stand behind its arguments."""
    part = world.program(source)
    held = args + [None] * (part.many - len(args))
    world.task.frames.append(Frame(part, Places(held, None), receiver, world.next_call()))


def _enter_block(world, block, args):
    places = Places(args, block.around)
    world.task.frames.append(Frame(block.part, places, block.receiver, block.home))


def _call(world, found, args, receiver):
    """Calls what a send has found."""
    if found is None:
        world.task.fail(NOT_UNDERSTOOD)
    elif world.task.is_full():
        world.task.fail(TOO_DEEP)
    elif isinstance(found, Block):
        _enter_block(world, found, args)
    else:
        text, owner, slots = found
        _enter_method(world, (text, owner, slots, world.task.optimized), args, receiver)


def _taken(stack, many):
    """Takes some values away from the stack; the last one was on top."""
    at = len(stack) - many
    found = stack[at:]
    del stack[at:]
    return found


def _finish(world, frame, result):
    """Puts a result on the stack, or fails with it; it is told as operate does."""
    if result[0] == "value":
        frame.stack.append(result[1])
    else:
        world.task.fail(result[1])


def _push(_world, frame, instruction):
    frame.stack.append(instruction[1])


def _self(_world, frame, _instruction):
    frame.stack.append(frame.receiver)


def _local(_world, frame, instruction):
    frame.stack.append(frame.places.out(instruction[1]).held[instruction[2]])


def _read(world, frame, instruction):
    _finish(world, frame, world.read(instruction, frame.receiver))


def _new(world, frame, instruction):
    if not world.has_class(instruction[1]):
        world.task.fail(NO_CLASS)
    elif world.has_room():
        frame.stack.append(world.admit(Instance(instruction[1], {})))
    else:
        world.task.fail(NO_MEMORY)


def _block(world, frame, instruction):
    if world.has_room():
        part = frame.part.parts[instruction[1]]
        block = Block(part, frame.places, frame.receiver, frame.home)
        frame.stack.append(world.admit(block))
    else:
        world.task.fail(NO_MEMORY)


def _set(world, frame, instruction):
    place = instruction[1]
    value = frame.stack.pop()
    if place[0] == "local":
        frame.places.out(place[1]).held[place[2]] = value
        return
    result = world.write(place, frame.receiver, value)
    if result[0] == "failure":
        world.task.fail(result[1])


def _pop(_world, frame, _instruction):
    frame.stack.pop()


def _neg(world, frame, _instruction):
    _finish(world, frame, change_sign(frame.stack.pop()))


def _not(world, frame, _instruction):
    _finish(world, frame, turn_round(frame.stack.pop()))


def _op(world, frame, instruction):
    left, right = _taken(frame.stack, 2)
    _finish(world, frame, operate(instruction[1], left, right))


def _jump(_world, frame, instruction):
    frame.at = instruction[1]


def _unless(world, frame, instruction):
    value = frame.stack.pop()
    if not is_truth(value):
        world.task.fail(NOT_A_TRUTH)
    elif not value:
        frame.at = instruction[1]


def _send(world, frame, instruction):
    _, name, many = instruction
    args = _taken(frame.stack, many)
    receiver = frame.stack.pop()
    _call(world, world.found(receiver, name, many), args, receiver)


def _super(world, frame, instruction):
    _, owner, name, many = instruction
    args = _taken(frame.stack, many)
    _call(world, world.found_above(owner, name, many), args, frame.receiver)


def _end(world, frame, _instruction):
    world.task.leave(frame.stack.pop())


def _give(world, frame, _instruction):
    value = frame.stack.pop()
    if world.task.has_call(frame.home):
        world.task.give(value, frame.home)
    else:
        world.task.fail(TOO_LATE)


def _fail(world, frame, _instruction):
    world.task.fail(frame.stack.pop())


def _mark(_world, frame, instruction):
    frame.mark(instruction[0], instruction[1])


def _done(_world, frame, _instruction):
    frame.marks.pop()


def _always(_world, frame, _instruction):
    frame.marks.pop()
    frame.notes.append(WELL)


def _resume(world, frame, _instruction):
    world.task.resume(frame.notes.pop())


ACTIONS = {
    "push": _push, "self": _self, "local": _local, "slot": _read, "global": _read, "new": _new,
    "block": _block, "set": _set, "pop": _pop, "neg": _neg, "not": _not, "op": _op, "jump": _jump,
    "unless": _unless, "send": _send, "super": _super, "end": _end, "give": _give, "fail": _fail,
    "try": _mark, "keep": _mark, "done": _done, "always": _always, "resume": _resume,
}
