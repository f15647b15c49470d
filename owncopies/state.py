"""What one copy knows: the changes of each who, and the marks in order.

A mark is kept as one number, 4096 who + n. As n is 1 or more, no mark has
the number 0, and 0 can stand for the beginning.
"""

PEOPLE = 16

PUTS = 0
TAKES_OUT = 1

BEGINNING = 0
MARKS_APART = 4096

ROOM_FOR_MARKS = 4096
ROOM_FOR_CHANGES = 8192
LAST_NUMBER = 4095
LAST_STAMP = 65535


class Change:
    # target is the mark that the change is behind, or that it takes out.
    def __init__(self, who, n, stamp, kind, target, character):
        self.who = who
        self.n = n
        self.stamp = stamp
        self.kind = kind
        self.target = target
        self.character = character


class State:
    def __init__(self):
        self.begin(0)

    # changes: for each who a list, in which change n stands at n - 1.
    # order: every known mark, those that were taken out too, because others
    # may stand behind these.
    def begin(self, who):
        self.who = who
        self.changes = [[] for each in range(PEOPLE)]
        self.order = []
        self.taken = {}
        self.largest_stamp = 0


def mark_of(change):
    return MARKS_APART * change.who + change.n


def change_of(state, mark):
    return state.changes[mark // MARKS_APART][mark % MARKS_APART - 1]


def shown_marks(state):
    return [mark for mark in state.order if mark not in state.taken]


def known_of_each(state):
    return [len(changes) for changes in state.changes]


def known_in_all(state):
    return sum(known_of_each(state))


# A mark's place in the order is the caller's to find: one who makes a change
# knows it beforehand.
def learn(state, change):
    state.changes[change.who].append(change)
    state.largest_stamp = max(state.largest_stamp, change.stamp)
    if change.kind == TAKES_OUT:
        state.taken[change.target] = True


def has_room(state, marks, changes):
    if len(state.order) + marks > ROOM_FOR_MARKS:
        return False
    if known_in_all(state) + changes > ROOM_FOR_CHANGES:
        return False
    if len(state.changes[state.who]) + changes > LAST_NUMBER:
        return False
    return state.largest_stamp + changes <= LAST_STAMP
