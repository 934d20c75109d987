"""Things: each is a tuple of its kind and its value.

The value of a number is a whole number, of a truth True or False, of a name or a word its text, of a mark 0,
of a procedure the tuple of its things. Arrays, tables and states are numbers by which the store finds them,
so that two things may lead to one.
"""

from stackwords.refusals import TooFew, WrongKind

NUMBER = "number"
TRUTH = "truth"
NAME = "name"
MARK = "mark"
ARRAY = "array"
TABLE = "table"
STATE = "state"
PROCEDURE = "procedure"
# A word stands in texts and procedures alone, never on the stack.
WORD = "word"
# Not a kind of its own: what a word wants where every kind will do.
ANY = "any"

TWO_TO_32 = 4294967296
TWO_TO_31 = 2147483648


def fits(number):
    return -TWO_TO_31 <= number < TWO_TO_31


def wrapped(number):
    return (number + TWO_TO_31) % TWO_TO_32 - TWO_TO_31


def want(stack, how_many):
    if len(stack) < how_many:
        raise TooFew()


# Refuse unless the uppermost things are of these kinds, the topmost of the last of them.
def want_kinds(stack, kinds):
    want(stack, len(kinds))
    place = len(stack) - len(kinds)
    for kind in kinds:
        if kind != ANY and stack[place][0] != kind:
            raise WrongKind()
        place += 1


# Put the thing on the stack in the place of the uppermost so many.
def put_for(stack, how_many, thing):
    drop(stack, how_many)
    stack.append(thing)


def drop(stack, how_many):
    while how_many > 0:
        stack.pop()
        how_many -= 1


def text_of(thing):
    kind = thing[0]
    if kind == NUMBER:
        return str(thing[1])
    if kind == TRUTH:
        return "true" if thing[1] else "false"
    if kind == NAME:
        return thing[1]
    return f"--{kind}--"
