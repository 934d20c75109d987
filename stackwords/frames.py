"""Frames of the pile: each knows what one step does when it is the uppermost."""

from stackwords.things import NUMBER, WORD


class RunFrame:
    def __init__(self, things):
        self.things = things
        self.place = 0

    def advance(self, machine):
        if self.place == len(self.things):
            machine.pile.pop()
            return
        thing = self.things[self.place]
        self.place += 1
        if thing[0] == WORD:
            machine.do_word(thing[1])
        else:
            machine.push(thing)


# The other loops' frames stand under this one, so that exit finds them all alike.
class LoopFrame:
    def __init__(self, body):
        self.body = body

    def advance(self, machine):
        machine.put_frame(RunFrame(self.body))

    def turn_with(self, machine, thing):
        # Room for the frame is asked first, so that nothing is on the stack if the step goes wrong.
        machine.check_frame_room()
        machine.push(thing)
        machine.put_frame(RunFrame(self.body))


class RepeatFrame(LoopFrame):
    def __init__(self, turns, body):
        LoopFrame.__init__(self, body)
        self.turns = turns

    def advance(self, machine):
        if self.turns == 0:
            machine.pile.pop()
            return
        machine.put_frame(RunFrame(self.body))
        self.turns -= 1


class ForFrame(LoopFrame):
    def __init__(self, first, stride, last, body):
        LoopFrame.__init__(self, body)
        self.number = first
        self.stride = stride
        self.last = last

    def is_past(self):
        if self.stride > 0:
            return self.number > self.last
        return self.number < self.last

    def advance(self, machine):
        if self.is_past():
            machine.pile.pop()
            return
        self.turn_with(machine, (NUMBER, self.number))
        self.number += self.stride


class ForallFrame(LoopFrame):
    def __init__(self, array, body):
        LoopFrame.__init__(self, body)
        self.array = array
        self.place = 0

    def advance(self, machine):
        things = machine.store.arrays[self.array[1]]
        if self.place == len(things):
            machine.pile.pop()
            return
        self.turn_with(machine, things[self.place])
        self.place += 1
