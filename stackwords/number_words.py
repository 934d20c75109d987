"""The words that reckon with numbers and truths."""

from stackwords.refusals import WrongKind, WrongNumber
from stackwords.things import NUMBER, PROCEDURE, STATE, TRUTH, put_for, want, want_kinds, wrapped


def want_two_numbers(stack):
    want(stack, 2)
    if stack[-2][0] != NUMBER or stack[-1][0] != NUMBER:
        raise WrongKind()


def put_number(stack, how_many, number):
    put_for(stack, how_many, (NUMBER, wrapped(number)))


def do_add(machine):
    stack = machine.stack
    want_two_numbers(stack)
    put_number(stack, 2, stack[-2][1] + stack[-1][1])


def do_sub(machine):
    stack = machine.stack
    want_two_numbers(stack)
    put_number(stack, 2, stack[-2][1] - stack[-1][1])


def do_mul(machine):
    stack = machine.stack
    want_two_numbers(stack)
    put_number(stack, 2, stack[-2][1] * stack[-1][1])


def want_divisor(stack):
    want_two_numbers(stack)
    if stack[-1][1] == 0:
        raise WrongNumber()


def do_idiv(machine):
    stack = machine.stack
    want_divisor(stack)
    a = stack[-2][1]
    b = stack[-1][1]
    # Python's own // goes down, not towards 0.
    quotient = abs(a) // abs(b)
    put_number(stack, 2, quotient if (a < 0) == (b < 0) else -quotient)


def do_mod(machine):
    stack = machine.stack
    want_divisor(stack)
    a = stack[-2][1]
    left = abs(a) % abs(stack[-1][1])
    put_number(stack, 2, -left if a < 0 else left)


def do_neg(machine):
    stack = machine.stack
    want_kinds(stack, (NUMBER,))
    put_number(stack, 1, -stack[-1][1])


def do_lt(machine):
    stack = machine.stack
    want_two_numbers(stack)
    put_for(stack, 2, (TRUTH, stack[-2][1] < stack[-1][1]))


def do_le(machine):
    stack = machine.stack
    want_two_numbers(stack)
    put_for(stack, 2, (TRUTH, stack[-2][1] <= stack[-1][1]))


def do_gt(machine):
    stack = machine.stack
    want_two_numbers(stack)
    put_for(stack, 2, (TRUTH, stack[-2][1] > stack[-1][1]))


def do_ge(machine):
    stack = machine.stack
    want_two_numbers(stack)
    put_for(stack, 2, (TRUTH, stack[-2][1] >= stack[-1][1]))


def do_eq(machine):
    stack = machine.stack
    want(stack, 2)
    kind = stack[-1][0]
    alike = stack[-2][0] == kind
    if alike and kind in (PROCEDURE, STATE):
        raise WrongKind()
    put_for(stack, 2, (TRUTH, alike and stack[-2][1] == stack[-1][1]))


# The kind is given back, as Python's bit operators serve truths and numbers alike.
def want_bits(stack, how_many):
    want(stack, how_many)
    kind = stack[-1][0]
    if kind not in (NUMBER, TRUTH) or stack[-how_many][0] != kind:
        raise WrongKind()
    return kind


def do_and(machine):
    stack = machine.stack
    kind = want_bits(stack, 2)
    put_for(stack, 2, (kind, stack[-2][1] & stack[-1][1]))


def do_or(machine):
    stack = machine.stack
    kind = want_bits(stack, 2)
    put_for(stack, 2, (kind, stack[-2][1] | stack[-1][1]))


def do_xor(machine):
    stack = machine.stack
    kind = want_bits(stack, 2)
    put_for(stack, 2, (kind, stack[-2][1] ^ stack[-1][1]))


def do_not(machine):
    stack = machine.stack
    kind = want_bits(stack, 1)
    value = stack[-1][1]
    put_for(stack, 1, (kind, not value if kind == TRUTH else -1 - value))


def do_true(machine):
    machine.push((TRUTH, True))


def do_false(machine):
    machine.push((TRUTH, False))


NUMBER_WORDS = {
    "add": do_add,
    "sub": do_sub,
    "mul": do_mul,
    "idiv": do_idiv,
    "mod": do_mod,
    "neg": do_neg,
    "lt": do_lt,
    "le": do_le,
    "gt": do_gt,
    "ge": do_ge,
    "eq": do_eq,
    "and": do_and,
    "or": do_or,
    "xor": do_xor,
    "not": do_not,
    "true": do_true,
    "false": do_false,
}
