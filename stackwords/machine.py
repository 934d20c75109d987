"""The machine: its stack, its pile of frames, its open tables, its store, and what it has said."""

from stackwords.frames import RunFrame
from stackwords.reader import things_of, tokens_of
from stackwords.refusals import NoSuchName, Refusal, TooMany
from stackwords.store import Store
from stackwords.things import PROCEDURE

MOST_THINGS = 256
MOST_FRAMES = 128
MOST_TOKENS = 4096


class Machine:
    def __init__(self, words):
        self.words = words
        self.stack = []
        self.pile = []
        # The numbers of the open tables, the one opened last at the end.
        self.opened = [0]
        self.store = Store()
        self.tokens_run = 0
        self.most = 0
        self.said = []
        self.said_in_all = 0

    def check_room(self, how_many):
        if len(self.stack) + how_many > MOST_THINGS:
            raise TooMany()

    def push(self, thing):
        if len(self.stack) >= MOST_THINGS:
            raise TooMany()
        self.stack.append(thing)

    def check_frame_room(self):
        if len(self.pile) >= MOST_FRAMES:
            raise TooMany()

    def put_frame(self, frame):
        self.check_frame_room()
        self.pile.append(frame)

    # The name's thing by the open tables, or None.
    def look_up(self, name):
        tables = self.store.tables
        for table in reversed(self.opened):
            thing = tables[table].get(name)
            if thing is not None:
                return thing
        return None

    def do_word(self, name):
        thing = self.look_up(name)
        if thing is None:
            if name not in self.words:
                raise NoSuchName()
            self.words[name](self)
        elif thing[0] == PROCEDURE:
            self.put_frame(RunFrame(thing[1]))
        else:
            self.push(thing)

    def say(self, text):
        self.said_in_all += len(text)
        room = self.most - len(self.said)
        for sign in text[:room]:
            self.said.append(ord(sign))

    def start(self, text):
        tokens = tokens_of(text)
        things = things_of(tokens)
        if self.tokens_run + len(tokens) > MOST_TOKENS:
            raise TooMany()
        self.tokens_run += len(tokens)
        self.put_frame(RunFrame(things))

    def go_on(self, steps):
        pile = self.pile
        while steps > 0 and pile:
            pile[-1].advance(self)
            steps -= 1
        return 1 if pile else 0

    def run(self, steps, most, text):
        self.most = most
        self.said = []
        self.said_in_all = 0
        try:
            self.start(text)
            answer = self.go_on(steps)
        except Refusal as refusal:
            answer = refusal.answer
        self.pile.clear()
        return answer
