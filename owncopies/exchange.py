"""The calls by which copies meet: news and hear."""

from owncopies.message import CHANGE_SIZE, bytes_of, change_from, is_in_form
from owncopies.refusals import AT_ODDS, LACKING, NO_ROOM, WRONG
from owncopies.state import BEGINNING, PUTS
from owncopies.state import change_of, has_room, is_known, is_mark, known_in_all, learn, number_of, rank_of, twin_of

NO_REFUSAL = 0


def news(state, most, so_much):
    if most < 0 or min(so_much) < 0:
        return [WRONG]
    unknown = []
    for changes, n in zip(state.changes, so_much):
        unknown.extend(changes[n:])
    message = []
    for change in sorted(unknown, key=rank_of)[:most // CHANGE_SIZE]:
        message.extend(bytes_of(change))
    return [len(message)] + message


# A twin hears the message first, because a refusal of a later change takes
# back the earlier ones.
def hear(state, message):
    if len(message) % CHANGE_SIZE != 0:
        return [WRONG]
    twin = twin_of(state)
    for at in range(0, len(message), CHANGE_SIZE):
        refusal = hear_change(twin, message[at:at + CHANGE_SIZE])
        if refusal != NO_REFUSAL:
            return [refusal]
    heard = known_in_all(twin) - known_in_all(state)
    state.become(twin)
    return [heard]


def hear_change(state, row):
    if not is_in_form(row):
        return WRONG
    change = change_from(row)
    if is_known(state, number_of(change)):
        return NO_REFUSAL if bytes_of(change_of(state, number_of(change))) == row else AT_ODDS
    refusal = refusal_of_unknown(state, change)
    if refusal == NO_REFUSAL:
        learn_in_order(state, change)
    return refusal


def refusal_of_unknown(state, change):
    before = state.changes[change.who]
    if change.n > len(before) + 1:
        return LACKING
    if change.target != BEGINNING:
        if not is_known(state, change.target):
            return LACKING
        if not is_mark(state, change.target) or change.stamp <= change_of(state, change.target).stamp:
            return AT_ODDS
    if len(before) > 0 and change.stamp <= before[-1].stamp:
        return AT_ODDS
    if not has_room(state, 1 if change.kind == PUTS else 0, 1):
        return NO_ROOM
    return NO_REFUSAL


def learn_in_order(state, change):
    if change.kind == PUTS:
        state.order.insert(place_in_order(state, change), number_of(change))
    learn(state, change)


# A mark has a greater stamp than the one that it's behind. So the marks of a
# greater rank that follow the target are just those behind it that come ahead
# of the new one, with all that is behind these; the first of a lower rank is
# one that comes after the new one, or no longer behind the target.
def place_in_order(state, change):
    place = 0
    if change.target != BEGINNING:
        place = state.order.index(change.target) + 1
    rank = rank_of(change)
    while place < len(state.order) and state.ranks[state.order[place]] > rank:
        place += 1
    return place
