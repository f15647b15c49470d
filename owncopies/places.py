"""The calls that tell marks and places in the text from one another: mark, place and shown."""

from owncopies.refusals import WRONG
from owncopies.state import is_mark, shown_marks


def mark(state, at):
    marks = shown_marks(state)
    if at < 0 or at >= len(marks):
        return [WRONG]
    return [marks[at]]


def place(state, number):
    if not is_mark(state, number):
        return [WRONG]
    before = state.order[:state.order.index(number)]
    return [len([each for each in before if each not in state.taken])]


def shown(state, number):
    if not is_mark(state, number):
        return [WRONG]
    return [0 if number in state.taken else 1]
