"""What one copy knows: the changes of each who, and the marks in order.

A change, and the mark that it makes, is known by one number, 4096 who + n.
As n is 1 or more, none has the number 0, and 0 can stand for the beginning.
"""

PEOPLE = 16

PUTS = 0
TAKES_OUT = 1

BEGINNING = 0
NUMBERS_APART = 4096

ROOM_FOR_MARKS = 4096
ROOM_FOR_CHANGES = 8192
LAST_NUMBER = 4095
LAST_STAMP = 65535
LAST_CHARACTER = 0x10FFFF


class Change:
    # target is the mark that the change is behind, or that it takes out.
    def __init__(self, who, n, stamp, kind, target, character):
        self.who = who
        self.n = n
        self.stamp = stamp
        self.kind = kind
        self.target = target
        self.character = character


class State:
    def __init__(self):
        self.begin(0)

    # changes: for each who a list, in which change n stands at n - 1.
    # order: every known mark, those that were taken out too, because others
    # may stand behind these.
    # ranks: of every known mark, so that a place in the order is found without
    # looking up each change on the way.
    def begin(self, who):
        self.who = who
        self.changes = [[] for each in range(PEOPLE)]
        self.order = []
        self.ranks = {}
        self.taken = {}
        self.largest_stamp = 0

    def become(self, other):
        self.who = other.who
        self.changes = [list(changes) for changes in other.changes]
        self.order = list(other.order)
        self.ranks = dict(other.ranks)
        self.taken = dict(other.taken)
        self.largest_stamp = other.largest_stamp


def twin_of(state):
    twin = State()
    twin.become(state)
    return twin


def number_of(change):
    return NUMBERS_APART * change.who + change.n


# Greater where the stamp is, and with one stamp where the who is.
def rank_of(change):
    return PEOPLE * change.stamp + change.who


def is_known(state, number):
    return number % NUMBERS_APART <= len(state.changes[number // NUMBERS_APART])


def is_mark(state, number):
    return number in state.ranks


def change_of(state, number):
    return state.changes[number // NUMBERS_APART][number % NUMBERS_APART - 1]


def shown_marks(state):
    return [mark for mark in state.order if mark not in state.taken]


def known_of_each(state):
    return [len(changes) for changes in state.changes]


def known_in_all(state):
    return sum(known_of_each(state))


# A mark's place in the order is the caller's to find: one who makes a change
# knows it beforehand.
def learn(state, change):
    state.changes[change.who].append(change)
    state.largest_stamp = max(state.largest_stamp, change.stamp)
    if change.kind == TAKES_OUT:
        state.taken[change.target] = True
    else:
        state.ranks[number_of(change)] = rank_of(change)


def has_room(state, marks, changes):
    if len(state.order) + marks > ROOM_FOR_MARKS:
        return False
    return known_in_all(state) + changes <= ROOM_FOR_CHANGES
