"""The words on arrays, tables and states."""

from stackwords.frames import ForallFrame
from stackwords.refusals import NoSuchName, NoWayBack, TooFew, TooMany, WrongKind, WrongNumber
from stackwords.things import ANY, ARRAY, NAME, NUMBER, STATE, TABLE, TRUTH, drop, put_for, want, want_kinds

MOST_OPENED = 16


def refuse_state(thing):
    if thing[0] == STATE:
        raise WrongKind()


def do_def(machine):
    stack = machine.stack
    want_kinds(stack, (NAME, ANY))
    refuse_state(stack[-1])
    machine.store.put_name(machine.opened[-1], stack[-2][1], stack[-1])
    drop(stack, 2)


def do_load(machine):
    stack = machine.stack
    want_kinds(stack, (NAME,))
    thing = machine.look_up(stack[-1][1])
    if thing is None:
        raise NoSuchName()
    put_for(stack, 1, thing)


def do_table(machine):
    machine.check_room(1)
    machine.push(machine.store.make_table())


def do_begin(machine):
    stack = machine.stack
    want_kinds(stack, (TABLE,))
    if len(machine.opened) >= MOST_OPENED:
        raise TooMany()
    machine.opened.append(stack.pop()[1])


def do_end(machine):
    if len(machine.opened) == 1:
        raise TooFew()
    machine.opened.pop()


def do_known(machine):
    stack = machine.stack
    want_kinds(stack, (TABLE, NAME))
    put_for(stack, 2, (TRUTH, stack[-1][1] in machine.store.tables[stack[-2][1]]))


def do_array(machine):
    stack = machine.stack
    want_kinds(stack, (NUMBER,))
    how_many = stack[-1][1]
    if how_many < 0:
        raise WrongNumber()
    # Asked ahead, so that a row too long to be kept is never made.
    machine.store.check_array_room(how_many)
    put_for(stack, 1, machine.store.make_array([(NUMBER, 0)] * how_many))


def held_by(machine, thing):
    if thing[0] == ARRAY:
        return machine.store.arrays[thing[1]]
    if thing[0] == TABLE:
        return machine.store.tables[thing[1]]
    raise WrongKind()


def do_length(machine):
    stack = machine.stack
    want(stack, 1)
    put_for(stack, 1, (NUMBER, len(held_by(machine, stack[-1]))))


def want_place_kind(holder, place):
    if (holder[0], place[0]) not in ((ARRAY, NUMBER), (TABLE, NAME)):
        raise WrongKind()


def want_place(things, place):
    if not 0 <= place < len(things):
        raise WrongNumber()


def do_get(machine):
    stack = machine.stack
    want(stack, 2)
    want_place_kind(stack[-2], stack[-1])
    held = held_by(machine, stack[-2])
    place = stack[-1][1]
    if stack[-2][0] == ARRAY:
        want_place(held, place)
    elif place not in held:
        raise NoSuchName()
    put_for(stack, 2, held[place])


def do_put(machine):
    stack = machine.stack
    want(stack, 3)
    holder = stack[-3]
    place = stack[-2][1]
    want_place_kind(holder, stack[-2])
    refuse_state(stack[-1])
    if holder[0] == ARRAY:
        want_place(held_by(machine, holder), place)
        machine.store.put_item(holder[1], place, stack[-1])
    else:
        machine.store.put_name(holder[1], place, stack[-1])
    drop(stack, 3)


def do_keep(machine):
    machine.check_room(1)
    machine.push(machine.store.keep_state())


# All that must outlast a state that is brought back: below it on the stack, open, or walked by a forall.
def things_in_use(machine):
    walked = [frame.array for frame in machine.pile if isinstance(frame, ForallFrame)]
    return machine.stack[:-1] + [(TABLE, table) for table in machine.opened] + walked


def do_back(machine):
    stack = machine.stack
    want_kinds(stack, (STATE,))
    state = machine.store.state_of(stack[-1][1])
    if any([state.lacks(thing) for thing in things_in_use(machine)]):
        raise NoWayBack()
    stack.pop()
    machine.store.bring_back(state)


STORE_WORDS = {
    "def": do_def,
    "load": do_load,
    "table": do_table,
    "begin": do_begin,
    "end": do_end,
    "known": do_known,
    "array": do_array,
    "length": do_length,
    "get": do_get,
    "put": do_put,
    "keep": do_keep,
    "back": do_back,
}
