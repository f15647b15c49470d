"""The calls that only look at a copy: length, text and known."""

from owncopies.state import change_of, known_in_all, known_of_each, shown_marks


def length(state):
    return [len(shown_marks(state))]


def text(state):
    characters = [change_of(state, mark).character for mark in shown_marks(state)]
    return [len(characters)] + characters


def known(state):
    return [known_in_all(state)] + known_of_each(state)
