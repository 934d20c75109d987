"""The calls, written one behind another in a list of whole numbers, and their answers."""

from stackwords.machine import Machine
from stackwords.words import all_words

CLEAR = 1
RUN = 2


def answers(calls):
    machine = Machine(all_words())
    given = []
    place = 0
    while place < len(calls):
        if calls[place] == CLEAR:
            machine = Machine(all_words())
            answer = [0]
            place += 1
        elif calls[place] == RUN:
            start = place + 4
            place = start + calls[start - 1]
            answer = answer_run(machine, calls[start - 3], calls[start - 2], calls[start:place])
        else:
            answer = [len(machine.stack)]
            place += 1
        given.append(len(answer))
        given.extend(answer)
    return given


def answer_run(machine, steps, most, text):
    answer = machine.run(steps, most, text)
    return [answer, machine.said_in_all] + machine.said
