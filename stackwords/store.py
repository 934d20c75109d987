"""The store: all arrays, tables and states, each under its number."""

from stackwords.refusals import NoWayBack, TooMany
from stackwords.things import ARRAY, STATE, TABLE

MOST_ARRAYS = 256
MOST_ITEMS = 2048
MOST_TABLES = 32
MOST_NAMES = 64
MOST_STATES = 4


class State:
    def __init__(self, number, arrays, tables, held):
        self.number = number
        self.arrays = arrays
        self.tables = tables
        self.held = held

    # Whether the thing would be no more if this state were brought back.
    def lacks(self, thing):
        if thing[0] == ARRAY:
            return thing[1] >= len(self.arrays)
        if thing[0] == TABLE:
            return thing[1] >= len(self.tables)
        return thing[0] == STATE and thing[1] >= self.number


class Store:
    def __init__(self):
        self.arrays = []
        self.tables = [{}]
        self.states = []
        self.states_made = 0
        self.held = 0
        # A state shares its rows with the store; only those that are told here are the store's alone.
        self.own_arrays = {}
        self.own_tables = {}

    def check_array_room(self, how_many):
        if len(self.arrays) >= MOST_ARRAYS or self.held + how_many > MOST_ITEMS:
            raise TooMany()

    def make_array(self, things):
        self.check_array_room(len(things))
        self.arrays.append(things)
        self.held += len(things)
        return (ARRAY, len(self.arrays) - 1)

    def make_table(self):
        if len(self.tables) >= MOST_TABLES:
            raise TooMany()
        self.tables.append({})
        return (TABLE, len(self.tables) - 1)

    def put_item(self, array, place, thing):
        if array not in self.own_arrays:
            self.arrays[array] = list(self.arrays[array])
            self.own_arrays[array] = True
        self.arrays[array][place] = thing

    def put_name(self, table, name, thing):
        if name not in self.tables[table] and len(self.tables[table]) >= MOST_NAMES:
            raise TooMany()
        if table not in self.own_tables:
            self.tables[table] = dict(self.tables[table])
            self.own_tables[table] = True
        self.tables[table][name] = thing

    def keep_state(self):
        if len(self.states) >= MOST_STATES:
            raise TooMany()
        number = self.states_made
        self.states.append(State(number, list(self.arrays), list(self.tables), self.held))
        self.states_made += 1
        self.share_all()
        return (STATE, number)

    def state_of(self, number):
        for state in self.states:
            if state.number == number:
                return state
        raise NoWayBack()

    def bring_back(self, state):
        self.states = [other for other in self.states if other.number < state.number]
        self.arrays = state.arrays
        self.tables = state.tables
        self.held = state.held
        self.share_all()

    def share_all(self):
        self.own_arrays = {}
        self.own_tables = {}
