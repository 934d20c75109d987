"""Writing calls and reading answers, for all tests."""

import unittest

from stackwords.runner import answers

PLENTY = 200000
CLEAR = [1]
DEPTH = [3]
EMPTY_THE_STACK = "{count 0 eq {exit} if =} loop"


def run(text, steps=PLENTY, most=3000):
    data = list(text.encode("latin-1")) if isinstance(text, str) else list(text)
    return [2, steps, most, len(data)] + data


def ask(*calls):
    """The answers to pl_clear and these calls behind it, a list each, without pl_clear's own."""
    given = answers(CLEAR + [number for call in calls for number in call])
    rows = []
    place = 0
    while place < len(given):
        end = place + 1 + given[place]
        rows.append(given[place + 1:end])
        place = end
    assert place == len(given) and rows[0] == [0]
    return rows[1:]


def last_answer(*texts):
    return ask(*[run(text) for text in texts])[-1][0]


def said(*texts):
    """What the last of the texts said."""
    return bytes(ask(*[run(text) for text in texts])[-1][2:]).decode("latin-1")


def outcome(*texts):
    """The last text's answer, and all that is on the stack then, as = says it, the topmost last."""
    rows = ask(*[run(text) for text in texts], run(EMPTY_THE_STACK))
    assert rows[-1][0] == 0, rows[-1]
    lines = bytes(rows[-1][2:]).decode("latin-1").split("\n")[:-1]
    return rows[-2][0], " ".join(reversed(lines))


def depth_after(*texts):
    """The last text's answer and pl_depth's."""
    rows = ask(*[run(text) for text in texts], DEPTH)
    return rows[-2][0], rows[-1][0]


class Case(unittest.TestCase):
    def check(self, *cases):
        """Each case: a text, its answer, what is on the stack then."""
        for text, answer, stack in cases:
            with self.subTest(text=text):
                self.assertEqual(outcome(text), (answer, stack))
