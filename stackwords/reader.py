"""Reading: the bytes of a text become tokens, and these the things that are to be done."""

from stackwords.refusals import NoText
from stackwords.things import NAME, NUMBER, PROCEDURE, WORD, fits

# The two tokens that are no things.
OPENING = "opening"
CLOSING = "closing"

BLANKS = (32, 9, 10, 13)
LINE_END = 10
COMMENT = 37
SLASH = 47
LEFT_BRACKET = 91
RIGHT_BRACKET = 93
LEFT_BRACE = 123
RIGHT_BRACE = 125
NOT_PLAIN = (37, 47, 91, 93, 123, 125)

FIRST_SIGN = 33
LAST_SIGN = 126
# The sign of byte 33 and those behind it; a blank stands for the comment's sign, which no run holds.
SIGNS = "!\"#$ &'()*+,-./0123456789:;<=>?@ABCDEFGHIJKLMNOPQRSTUVWXYZ[\\]^_`abcdefghijklmnopqrstuvwxyz{|}~"

LONGEST_NAME = 31
LONGEST_NUMBER = 10
DEEPEST = 16


def is_plain(byte):
    return FIRST_SIGN <= byte <= LAST_SIGN and byte not in NOT_PLAIN


def comment_end(text, place):
    while place < len(text) and text[place] != LINE_END:
        place += 1
    return place


def run_end(text, place):
    while place < len(text) and is_plain(text[place]):
        place += 1
    return place


def run_in(text, start, end):
    return "".join([SIGNS[byte - FIRST_SIGN] for byte in text[start:end]])


def number_token(digits, below):
    # Only the length is bounded here, so that a row of thousands of digits is never reckoned with.
    digits = digits.lstrip("0")
    if len(digits) > LONGEST_NUMBER:
        raise NoText()
    number = int("0" + digits)
    if below:
        number = -number
    if not fits(number):
        raise NoText()
    return (NUMBER, number)


def named_token(kind, run):
    if run == "" or len(run) > LONGEST_NAME:
        raise NoText()
    return (kind, run)


def run_token(run):
    below = run.startswith("-")
    digits = run[1:] if below else run
    if digits.isdigit():
        return number_token(digits, below)
    return named_token(WORD, run)


def sign_token(byte):
    if byte == LEFT_BRACE:
        return (OPENING, "")
    if byte == RIGHT_BRACE:
        return (CLOSING, "")
    if byte == LEFT_BRACKET:
        return (WORD, "[")
    if byte == RIGHT_BRACKET:
        return (WORD, "]")
    raise NoText()


def tokens_of(text):
    tokens = []
    place = 0
    while place < len(text):
        byte = text[place]
        if byte in BLANKS:
            place += 1
        elif byte == COMMENT:
            place = comment_end(text, place)
        elif byte == SLASH:
            end = run_end(text, place + 1)
            tokens.append(named_token(NAME, run_in(text, place + 1, end)))
            place = end
        elif is_plain(byte):
            end = run_end(text, place)
            tokens.append(run_token(run_in(text, place, end)))
            place = end
        else:
            tokens.append(sign_token(byte))
            place += 1
    return tokens


def things_of(tokens):
    # The uppermost row is that of the innermost procedure which is still open, the lowest the text's own.
    rows = [[]]
    for token in tokens:
        if token[0] == OPENING:
            if len(rows) > DEEPEST:
                raise NoText()
            rows.append([])
        elif token[0] == CLOSING:
            if len(rows) == 1:
                raise NoText()
            within = rows.pop()
            rows[-1].append((PROCEDURE, tuple(within)))
        else:
            rows[-1].append(token)
    if len(rows) > 1:
        raise NoText()
    return tuple(rows[0])
