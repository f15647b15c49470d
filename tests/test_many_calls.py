"""Calls at hazard on several copies, beside a slow copy that is told as the words tell it."""

import random
import struct
import unittest

from helper import hear, in_bytes, joined, known, length, mark, new, news, parted, place, put, shown, so_much, take
from helper import text, then
from owncopies.copy import answers


class Told:
    """One copy. changes: (who, n) -> (kind, stamp, the (who, n) of its mark or None, character)."""

    def __init__(self, who):
        self.who = who
        self.changes = {}

    def count(self, who, changes=None):
        return len([1 for key in (self.changes if changes is None else changes) if key[0] == who])

    def order(self, changes):
        behind = {}
        for key, (kind, stamp, of, character) in changes.items():
            if kind == 0:
                behind.setdefault(of, []).append((stamp, key[0], key))
        ordered = []

        def walk(of):
            for stamp, who, key in sorted(behind.get(of, []), reverse=True):
                ordered.append(key)
                walk(key)
        walk(None)
        return ordered

    def marks_shown(self, changes):
        out = {of for kind, stamp, of, character in changes.values() if kind == 1}
        return [key for key in self.order(changes) if key not in out]

    def text_of(self, changes):
        return [changes[key][3] for key in self.marks_shown(changes)]

    def make(self, kind, of, character):
        key = (self.who, self.count(self.who) + 1)
        self.changes[key] = (kind, 1 + max([c[1] for c in self.changes.values()], default=0), of, character)
        return key

    def put(self, at, characters):
        marks = self.marks_shown(self.changes)
        if not 0 <= at <= len(marks):
            return [-1]
        of = marks[at - 1] if at else None
        for character in characters:
            of = self.make(0, of, character)
        return [len(characters)]

    def take(self, at, n):
        marks = self.marks_shown(self.changes)
        if at < 0 or n < 0 or at + n > len(marks):
            return [-1]
        for key in marks[at:at + n]:
            self.make(1, key, 0)
        return [n]

    def news(self, most, numbers):
        rows = sorted((c[1], key[0], in_bytes(key[0], c[0], key[1], c[1], c[2], c[3]))
                      for key, c in self.changes.items() if key[1] > numbers[key[0]])
        message = joined([row for stamp, who, row in rows[:most // 16]])
        return [len(message)] + message

    def hear(self, message):
        if len(message) % 16:
            return [-1]
        trial = dict(self.changes)
        for at in range(0, len(message), 16):
            refusal = self.hear_one(trial, bytes(message[at:at + 16]))
            if refusal:
                return [refusal]
        heard = len(trial) - len(self.changes)
        self.changes = trial
        return [heard]

    def hear_one(self, trial, row):
        who, kind, n, stamp, of_who, zero, of_n, zeros, character = struct.unpack("<BBHHBBHHI", row)
        beginning = kind == 0 and of_who == 255 and of_n == 0
        if who > 15 or kind > 1 or not 1 <= n <= 4095 or stamp == 0 or zero or zeros:
            return -1
        if not beginning and (of_who > 15 or not 1 <= of_n <= 4095):
            return -1
        if character > (0 if kind else 0x10FFFF):
            return -1
        key, of = (who, n), None if beginning else (of_who, of_n)
        told = (kind, stamp, of, character)
        if key in trial:
            return 0 if trial[key] == told else -3
        if n > 1 and (who, n - 1) not in trial or of and of not in trial:
            return -2
        if of and (trial[of][0] == 1 or stamp <= trial[of][1]) or n > 1 and stamp <= trial[who, n - 1][1]:
            return -3
        trial[key] = told
        return 0

    def then(self, numbers):
        if any(n < 0 or n > self.count(who) for who, n in enumerate(numbers)):
            return [-1]
        part = {key: c for key, c in self.changes.items() if key[1] <= numbers[key[0]]}
        if any(c[2] and c[2] not in part for c in part.values()):
            return [-2]
        characters = self.text_of(part)
        return [len(characters)] + characters

    def place(self, number):
        key = divmod(number, 4096)
        if self.changes.get(key, (1,))[0] == 1:
            return [-1]
        order = self.order(self.changes)
        marks = self.marks_shown(self.changes)
        return [len([1 for each in order[:order.index(key)] if each in marks])]

    def shown(self, number):
        if self.place(number) == [-1]:
            return [-1]
        return [1 if divmod(number, 4096) in self.marks_shown(self.changes) else 0]

    def mark(self, at):
        marks = self.marks_shown(self.changes)
        return [4096 * marks[at][0] + marks[at][1]] if 0 <= at < len(marks) else [-1]


class Round:
    """Several copies that write and hear one another; each keeps its calls and what they should answer."""

    def __init__(self, seed):
        self.hazard = random.Random(seed)
        people = self.hazard.sample(range(16), self.hazard.randint(2, 5))
        self.copies = [Told(who) for who in people]
        self.calls = [[new(who)] for who in people]
        self.wanted = [[[0]] for who in people]

    def note(self, k, call, wanted):
        self.calls[k].append(call)
        self.wanted[k].append(wanted)

    def step(self):
        k = self.hazard.randrange(len(self.copies))
        copy = self.copies[k]
        self.hazard.choice((self.write, self.write, self.meet, self.meet, self.meet_spoilt, self.look))(k, copy)

    def write(self, k, copy):
        size = len(copy.text_of(copy.changes))
        at, n = self.hazard.randint(-1, size + 1), self.hazard.randint(0, 3)
        if self.hazard.randrange(3):
            row = [self.hazard.randrange(0x110000) for each in range(n)]
            self.note(k, put(at, row), copy.put(at, row))
        else:
            self.note(k, take(at, n), copy.take(at, n))

    def numbers_near(self, copy):
        return [max(0, copy.count(who) + self.hazard.choice((0, 0, 0, 0, -1, -2, 1))) for who in range(16)]

    def message_to(self, copy):
        k = self.hazard.randrange(len(self.copies))
        most = self.hazard.choice((0, 17, 64, 160, 1600))
        numbers = self.hazard.choice(([copy.count(who) for who in range(16)], self.numbers_near(copy), so_much()))
        answer = self.copies[k].news(most, numbers)
        self.note(k, news(most, numbers), answer)
        return answer[1:]

    def meet(self, k, copy):
        message = self.message_to(copy)
        self.note(k, hear(message), copy.hear(message))

    def meet_spoilt(self, k, copy):
        message = self.message_to(copy)
        for each in range(self.hazard.randint(1, 2) if message else 0):
            at = self.hazard.randrange(len(message))
            message[at] = self.hazard.choice((0, 1, 2, 3, 16, 255, message[at] + 1 & 255, self.hazard.randrange(256)))
        # A spoilt message must not be learnt: others know that change otherwise.
        told = Told(copy.who)
        told.changes = dict(copy.changes)
        answer = told.hear(message)
        if answer[0] < 0:
            self.note(k, hear(message), answer)

    def look(self, k, copy):
        size = len(copy.text_of(copy.changes))
        at = self.hazard.randint(-1, size)
        number = 4096 * self.hazard.choice(self.copies).who + self.hazard.randint(0, 8)
        numbers = self.hazard.choice((self.numbers_near(copy), [self.hazard.randint(0, copy.count(who)) for who in range(16)]))
        characters = copy.text_of(copy.changes)
        each = [copy.count(who) for who in range(16)]
        for call, wanted in ((mark(at), copy.mark(at)), (place(number), copy.place(number)), (length(), [size]),
                             (shown(number), copy.shown(number)), (then(numbers), copy.then(numbers)),
                             (text(), [size] + characters), (known(), [sum(each)] + each)):
            self.note(k, call, wanted)

    def meet_all(self):
        for k, copy in enumerate(self.copies):
            for other in self.copies:
                message = other.news(100000, so_much())[1:]
                self.note(k, hear(message), copy.hear(message))
        for k, copy in enumerate(self.copies):
            message = self.copies[0].news(100000, so_much())[1:]
            self.note(k, hear(message), copy.hear(message))
            self.look(k, copy)
            self.note(k, text(), [len(copy.text_of(copy.changes))] + copy.text_of(copy.changes))


class ManyCalls(unittest.TestCase):
    def test_each_answer_is_as_the_words_tell_it(self):
        refusals = {}
        for seed in range(120):
            round_ = Round(seed)
            for step in range(70):
                round_.step()
            round_.meet_all()
            for calls, wanted in zip(round_.calls, round_.wanted):
                self.assertEqual(parted(answers(joined(calls))), wanted, seed)
                for call, answer in zip(calls, wanted):
                    refusals[call[0], min(answer[0], 0)] = True
            self.assertEqual(len({str(wanted[-1]) for wanted in round_.wanted}), 1, seed)
        for wanted in ((8, -1), (8, -2), (8, -3), (8, 0), (9, -1), (9, -2), (9, 0), (10, 0), (11, 0), (12, 0)):
            self.assertIn(wanted, refusals)


if __name__ == "__main__":
    unittest.main()
