"""The words that put frames on the pile or take them off."""

from stackwords.frames import ForallFrame, ForFrame, LoopFrame, RepeatFrame, RunFrame
from stackwords.refusals import NoLoop, WrongNumber
from stackwords.things import ARRAY, NUMBER, PROCEDURE, TRUTH, drop, want_kinds


# The frame first: if it finds no room, the stack must stay as it is.
def enter(machine, how_many, frame):
    machine.put_frame(frame)
    drop(machine.stack, how_many)


def do_exec(machine):
    stack = machine.stack
    want_kinds(stack, (PROCEDURE,))
    enter(machine, 1, RunFrame(stack[-1][1]))


def do_if(machine):
    stack = machine.stack
    want_kinds(stack, (TRUTH, PROCEDURE))
    if stack[-2][1]:
        enter(machine, 2, RunFrame(stack[-1][1]))
    else:
        drop(stack, 2)


def do_ifelse(machine):
    stack = machine.stack
    want_kinds(stack, (TRUTH, PROCEDURE, PROCEDURE))
    chosen = stack[-2] if stack[-3][1] else stack[-1]
    enter(machine, 3, RunFrame(chosen[1]))


def do_repeat(machine):
    stack = machine.stack
    want_kinds(stack, (NUMBER, PROCEDURE))
    turns = stack[-2][1]
    if turns < 0:
        raise WrongNumber()
    enter(machine, 2, RepeatFrame(turns, stack[-1][1]))


def do_loop(machine):
    stack = machine.stack
    want_kinds(stack, (PROCEDURE,))
    enter(machine, 1, LoopFrame(stack[-1][1]))


def do_for(machine):
    stack = machine.stack
    want_kinds(stack, (NUMBER, NUMBER, NUMBER, PROCEDURE))
    stride = stack[-3][1]
    if stride == 0:
        raise WrongNumber()
    enter(machine, 4, ForFrame(stack[-4][1], stride, stack[-2][1], stack[-1][1]))


def do_forall(machine):
    stack = machine.stack
    want_kinds(stack, (ARRAY, PROCEDURE))
    enter(machine, 2, ForallFrame(stack[-2], stack[-1][1]))


def do_exit(machine):
    pile = machine.pile
    if not any([isinstance(frame, LoopFrame) for frame in pile]):
        raise NoLoop()
    while not isinstance(pile[-1], LoopFrame):
        pile.pop()
    pile.pop()


FLOW_WORDS = {
    "exec": do_exec,
    "if": do_if,
    "ifelse": do_ifelse,
    "repeat": do_repeat,
    "loop": do_loop,
    "for": do_for,
    "forall": do_forall,
    "exit": do_exit,
}
