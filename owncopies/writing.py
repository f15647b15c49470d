"""The calls that change a copy at its own place: new, put and take."""

from owncopies.refusals import NO_ROOM, WRONG
from owncopies.state import BEGINNING, LAST_CHARACTER, LAST_NUMBER, LAST_STAMP, PEOPLE, PUTS, TAKES_OUT
from owncopies.state import Change, has_room, learn, number_of, shown_marks

MOST_CHARACTERS = 4096


def new(state, who):
    if who < 0 or who >= PEOPLE:
        return [WRONG]
    state.begin(who)
    return [0]


def put(state, at, characters):
    n = len(characters)
    if at < 0 or at > len(shown_marks(state)):
        return [WRONG]
    if n > MOST_CHARACTERS or max(characters, default=0) > LAST_CHARACTER:
        return [WRONG]
    if not has_own_room(state, n, n):
        return [NO_ROOM]
    put_in_order(state, order_place(state, at), characters)
    return [n]


def take(state, at, n):
    if at < 0 or n < 0 or at + n > len(shown_marks(state)):
        return [WRONG]
    if not has_own_room(state, 0, n):
        return [NO_ROOM]
    for mark in shown_marks(state)[at:at + n]:
        make_change(state, TAKES_OUT, mark, 0)
    return [n]


# Own changes need numbers and stamps besides, as both are counted on here;
# changes that are heard bring theirs along.
def has_own_room(state, marks, changes):
    if len(state.changes[state.who]) + changes > LAST_NUMBER:
        return False
    if state.largest_stamp + changes > LAST_STAMP:
        return False
    return has_room(state, marks, changes)


# Marks that were taken out and follow the character before at are not passed:
# what is put stands behind a mark of the text.
def order_place(state, at):
    passed = 0
    place = 0
    while passed < at:
        if state.order[place] not in state.taken:
            passed += 1
        place += 1
    return place


# A new stamp is above all that are known, so a new mark comes ahead of all
# others behind the same one: it stands straight behind its target.
def put_in_order(state, place, characters):
    target = state.order[place - 1] if place > 0 else BEGINNING
    marks = []
    for character in characters:
        target = number_of(make_change(state, PUTS, target, character))
        marks.append(target)
    state.order = state.order[:place] + marks + state.order[place:]


def make_change(state, kind, target, character):
    n = len(state.changes[state.who]) + 1
    change = Change(state.who, n, state.largest_stamp + 1, kind, target, character)
    learn(state, change)
    return change
