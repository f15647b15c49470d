"""The calls that only look at a copy's text and changes: length, text, known and then."""

from owncopies.refusals import LACKING, WRONG
from owncopies.state import BEGINNING, NUMBERS_APART, TAKES_OUT
from owncopies.state import change_of, known_in_all, known_of_each, shown_marks


def length(state):
    return [len(shown_marks(state))]


def text(state):
    return counted_characters(state, shown_marks(state))


def known(state):
    return [known_in_all(state)] + known_of_each(state)


# The marks of a part stand in the same order as they do among all: each mark
# of the part has the one that it's behind within the part too.
def then(state, so_much):
    if any([n < 0 or n > most for n, most in zip(so_much, known_of_each(state))]):
        return [WRONG]
    part = []
    for changes, n in zip(state.changes, so_much):
        part.extend(changes[:n])
    if any([not is_among(change.target, so_much) for change in part]):
        return [LACKING]
    taken = dict([(change.target, True) for change in part if change.kind == TAKES_OUT])
    marks = [mark for mark in state.order if is_among(mark, so_much) and mark not in taken]
    return counted_characters(state, marks)


def is_among(number, so_much):
    return number == BEGINNING or number % NUMBERS_APART <= so_much[number // NUMBERS_APART]


def counted_characters(state, marks):
    return [len(marks)] + [change_of(state, mark).character for mark in marks]
