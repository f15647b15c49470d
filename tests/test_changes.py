"""Words: a change's number, stamp and mark, the order of the marks, the room.

What the calls can't show or reach is looked at in what the copy keeps.
"""

import random
import unittest

from owncopies.reading import known, length, text
from owncopies.state import BEGINNING, PUTS, TAKES_OUT, Change, State, learn, number_of
from owncopies.writing import new, put, take


def copy_of(who):
    state = State()
    new(state, who)
    return state


def facts(state, who):
    return [(c.who, c.n, c.stamp, c.kind, c.target, c.character) for c in state.changes[who]]


def learn_at_the_end(state, change):
    learn(state, change)
    if change.kind == PUTS:
        state.order.append(number_of(change))


def text_by_the_words(state):
    """The text as the words tell it, from nothing but the changes."""
    behind = {}
    taken = set()
    for changes in state.changes:
        for change in changes:
            if change.kind == TAKES_OUT:
                taken.add(change.target)
            else:
                behind.setdefault(change.target, []).append(change)
    waiting = sorted(behind.get(BEGINNING, []), key=lambda c: (c.stamp, c.who))
    shown = []
    while waiting:
        change = waiting.pop()
        mark = 4096 * change.who + change.n
        if mark not in taken:
            shown.append(change.character)
        waiting.extend(sorted(behind.get(mark, []), key=lambda c: (c.stamp, c.who)))
    return [len(shown)] + shown


class OwnChanges(unittest.TestCase):
    def test_a_put_is_behind_the_character_before_it(self):
        state = copy_of(2)
        put(state, 0, [10, 11])
        put(state, 1, [12, 13])
        put(state, 0, [14])
        base = 8192
        self.assertEqual(facts(state, 2), [
            (2, 1, 1, PUTS, BEGINNING, 10), (2, 2, 2, PUTS, base + 1, 11), (2, 3, 3, PUTS, base + 1, 12),
            (2, 4, 4, PUTS, base + 3, 13), (2, 5, 5, PUTS, BEGINNING, 14)])
        self.assertEqual(state.order, [base + 5, base + 1, base + 3, base + 4, base + 2])

    def test_a_put_is_never_behind_a_mark_that_is_taken_out(self):
        state = copy_of(0)
        put(state, 0, [10, 11, 12])
        take(state, 1, 1)
        put(state, 1, [13])
        take(state, 0, 1)
        put(state, 0, [14])
        self.assertEqual(facts(state, 0)[4:], [(0, 5, 5, PUTS, 1, 13), (0, 6, 6, TAKES_OUT, 1, 0),
                                               (0, 7, 7, PUTS, BEGINNING, 14)])
        self.assertEqual(state.order, [7, 1, 5, 2, 3])

    def test_takes_are_from_the_first_to_the_last(self):
        state = copy_of(1)
        put(state, 0, [10, 11, 12])
        put(state, 1, [13])
        take(state, 1, 3)
        self.assertEqual(facts(state, 1)[4:], [(1, 5, 5, TAKES_OUT, 4100, 0), (1, 6, 6, TAKES_OUT, 4098, 0),
                                               (1, 7, 7, TAKES_OUT, 4099, 0)])

    def test_a_stamp_is_one_more_than_the_largest_known(self):
        state = copy_of(0)
        learn_at_the_end(state, Change(3, 1, 50, PUTS, BEGINNING, 65))
        learn_at_the_end(state, Change(4, 1, 20, PUTS, BEGINNING, 66))
        put(state, 1, [67, 68])
        take(state, 0, 1)
        self.assertEqual([(c.n, c.stamp) for c in state.changes[0]], [(1, 51), (2, 52), (3, 53)])
        self.assertEqual(known(state), [5, 3, 0, 0, 1, 1] + [0] * 11)

    def test_new_begins_with_stamp_and_number_1_again(self):
        state = copy_of(0)
        put(state, 0, [65, 66])
        new(state, 0)
        put(state, 0, [67])
        self.assertEqual(facts(state, 0), [(0, 1, 1, PUTS, BEGINNING, 67)])


class Room(unittest.TestCase):
    def test_for_4096_marks_in_all_taken_out_or_not(self):
        state = copy_of(0)
        for n in range(1, 4001):
            learn_at_the_end(state, Change(1, n, n, PUTS, BEGINNING, 65))
        take(state, 0, 10)
        self.assertEqual(put(state, 0, [66] * 97), [-4])
        self.assertEqual(length(state), [3990])
        self.assertEqual(put(state, 0, [66] * 96), [96])
        self.assertEqual(put(state, 0, [66]), [-4])
        self.assertEqual(put(state, 0, []), [0])
        self.assertEqual(take(state, 0, 1), [1])

    def test_for_8192_changes_in_all(self):
        state = copy_of(0)
        learn_at_the_end(state, Change(1, 1, 1, PUTS, BEGINNING, 65))
        for who, count in ((2, 4095), (3, 4090)):
            for n in range(1, count + 1):
                learn(state, Change(who, n, n + 1, TAKES_OUT, 4097, 0))
        self.assertEqual(put(state, 0, [66] * 7), [-4])
        self.assertEqual(put(state, 0, [66] * 5), [5])
        self.assertEqual(take(state, 0, 2), [-4])
        self.assertEqual(take(state, 0, 1), [1])
        self.assertEqual(known(state)[0], 8192)
        self.assertEqual(take(state, 0, 1), [-4])
        self.assertEqual(put(state, 0, [66]), [-4])
        self.assertEqual(put(state, 0, []), [0])
        self.assertEqual(take(state, 0, 0), [0])

    def test_for_stamps_up_to_65535(self):
        state = copy_of(0)
        learn_at_the_end(state, Change(1, 1, 65532, PUTS, BEGINNING, 65))
        self.assertEqual(put(state, 0, [66] * 4), [-4])
        self.assertEqual(put(state, 0, [66] * 2), [2])
        self.assertEqual(take(state, 0, 2), [-4])
        self.assertEqual(take(state, 0, 1), [1])
        self.assertEqual(state.changes[0][-1].stamp, 65535)
        self.assertEqual(put(state, 0, [66]), [-4])
        self.assertEqual(take(state, 0, 1), [-4])
        self.assertEqual(put(state, 0, []), [0])

    def test_others_changes_leave_the_own_numbers_free(self):
        state = copy_of(0)
        learn_at_the_end(state, Change(1, 1, 1, PUTS, BEGINNING, 65))
        self.assertEqual(put(state, 0, [66] * 4095), [4095])


class ManyCalls(unittest.TestCase):
    def test_the_text_is_as_the_words_tell_it(self):
        for seed in range(60):
            self.write_at_hazard(random.Random(seed))

    def write_at_hazard(self, hazard):
        state = copy_of(hazard.randrange(16))
        plain = []
        for step in range(60):
            at = hazard.randint(-1, len(plain) + 1)
            n = hazard.randint(0, 5)
            if hazard.randrange(3):
                row = [hazard.randrange(0x110000) for k in range(n)]
                fits = 0 <= at <= len(plain)
                self.assertEqual(put(state, at, row), [n] if fits else [-1])
                plain[at:at] = row if fits else []
            else:
                fits = at >= 0 and at + n <= len(plain)
                self.assertEqual(take(state, at, n), [n] if fits else [-1])
                plain[at:at + n] = [] if fits else plain[at:at + n]
            self.assertEqual(text(state), [len(plain)] + plain)
            self.assertEqual(text(state), text_by_the_words(state))


if __name__ == "__main__":
    unittest.main()
