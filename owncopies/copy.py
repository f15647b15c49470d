"""The calls on one copy, from the first to the last, and what they answer."""

from owncopies.exchange import hear, news
from owncopies.places import mark, place, shown
from owncopies.reader import Reader
from owncopies.reading import known, length, text, then
from owncopies.state import State
from owncopies.writing import new, put, take

NEW = 1
LENGTH = 2
TEXT = 3
PUT = 4
TAKE = 5
KNOWN = 6
NEWS = 7
HEAR = 8
THEN = 9
MARK = 10
PLACE = 11
SHOWN = 12


class UnknownCall(ValueError):
    pass


def answers(calls):
    state = State()
    reader = Reader(calls)
    given = []
    while reader.has_more():
        answer = answer_to(reader.number(), state, reader)
        given.append(len(answer))
        given.extend(answer)
    return given


def answer_to(call, state, reader):
    if call == NEW:
        return new(state, reader.number())
    if call == LENGTH:
        return length(state)
    if call == TEXT:
        return text(state)
    if call == PUT:
        at = reader.number()
        return put(state, at, reader.row())
    if call == TAKE:
        at = reader.number()
        return take(state, at, reader.number())
    if call == KNOWN:
        return known(state)
    if call == NEWS:
        most = reader.number()
        return news(state, most, reader.row())
    if call == HEAR:
        return hear(state, reader.row())
    if call == THEN:
        return then(state, reader.row())
    if call == MARK:
        return mark(state, reader.number())
    if call == PLACE:
        return place(state, reader.number())
    if call == SHOWN:
        return shown(state, reader.number())
    raise UnknownCall(f"no call has the number {call}")
