"""The words that move things on the stack, and the one that says them."""

from stackwords.refusals import TooFew, WrongKind, WrongNumber
from stackwords.things import MARK, NUMBER, STATE, drop, put_for, text_of, want, want_kinds


def do_pop(machine):
    want(machine.stack, 1)
    machine.stack.pop()


def do_exch(machine):
    stack = machine.stack
    want(stack, 2)
    lower = stack.pop(-2)
    stack.append(lower)


def do_dup(machine):
    want(machine.stack, 1)
    machine.push(machine.stack[-1])


# Asked behind the kinds, though it may answer -3: only of a number is it known how many are told.
def want_told(stack, besides, told):
    if told > len(stack) - besides:
        raise TooFew()
    if told < 0:
        raise WrongNumber()


def do_copy(machine):
    stack = machine.stack
    want_kinds(stack, (NUMBER,))
    how_many = stack[-1][1]
    want_told(stack, 1, how_many)
    machine.check_room(how_many - 1)
    stack.pop()
    stack.extend(stack[len(stack) - how_many:])


def do_index(machine):
    stack = machine.stack
    want_kinds(stack, (NUMBER,))
    above = stack[-1][1]
    want_told(stack, 2, above)
    put_for(stack, 1, stack[-2 - above])


def do_roll(machine):
    stack = machine.stack
    want_kinds(stack, (NUMBER, NUMBER))
    how_many = stack[-2][1]
    times = stack[-1][1]
    want_told(stack, 2, how_many)
    drop(stack, 2)
    if how_many > 0:
        start = len(stack) - how_many
        cut = len(stack) - times % how_many
        turned = stack[cut:] + stack[start:cut]
        drop(stack, how_many)
        stack.extend(turned)


def do_clear(machine):
    machine.stack.clear()


def do_count(machine):
    machine.push((NUMBER, len(machine.stack)))


def do_mark(machine):
    machine.push((MARK, 0))


def above_mark(stack):
    place = len(stack) - 1
    while place >= 0 and stack[place][0] != MARK:
        place -= 1
    if place < 0:
        raise TooFew()
    return len(stack) - 1 - place


def do_cleartomark(machine):
    drop(machine.stack, above_mark(machine.stack) + 1)


def do_counttomark(machine):
    machine.push((NUMBER, above_mark(machine.stack)))


def do_close_bracket(machine):
    stack = machine.stack
    how_many = above_mark(stack)
    things = stack[len(stack) - how_many:]
    if any([thing[0] == STATE for thing in things]):
        raise WrongKind()
    put_for(stack, how_many + 1, machine.store.make_array(things))


def do_say(machine):
    want(machine.stack, 1)
    machine.say(text_of(machine.stack.pop()) + "\n")


STACK_WORDS = {
    "pop": do_pop,
    "exch": do_exch,
    "dup": do_dup,
    "copy": do_copy,
    "index": do_index,
    "roll": do_roll,
    "clear": do_clear,
    "count": do_count,
    "mark": do_mark,
    "[": do_mark,
    "cleartomark": do_cleartomark,
    "counttomark": do_counttomark,
    "]": do_close_bracket,
    "=": do_say,
}
