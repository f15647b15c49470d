"""Writes calls as lists, and parts the list of answers into one list a call."""

import struct

from owncopies.copy import answers


def new(who):
    return [1, who]


def length():
    return [2]


def text():
    return [3]


def put(at, characters):
    row = [ord(c) for c in characters] if isinstance(characters, str) else list(characters)
    return [4, at, len(row)] + row


def take(at, n):
    return [5, at, n]


def known():
    return [6]


def news(most, numbers):
    return [7, most, len(numbers)] + list(numbers)


def hear(*changes):
    message = joined(changes)
    return [8, len(message)] + message


def then(numbers):
    return [9, len(numbers)] + list(numbers)


def mark(at):
    return [10, at]


def place(number):
    return [11, number]


def shown(number):
    return [12, number]


def in_bytes(who, kind, n, stamp, of, character):
    """A change in a message; of is the (who, n) of its mark, None at the beginning."""
    mark_who, mark_n = of or (255, 0)
    return list(struct.pack("<BBHHBBHHI", who, kind, n, stamp, mark_who, 0, mark_n, 0, character))


def puts(who, n, stamp, behind, character):
    return in_bytes(who, 0, n, stamp, behind, ord(character) if isinstance(character, str) else character)


def takes(who, n, stamp, out):
    return in_bytes(who, 1, n, stamp, out, 0)


def so_much(**of_who):
    """Sixteen numbers, e.g. so_much(w0=3, w15=2)."""
    return [of_who.get(f"w{who}", 0) for who in range(16)]


def tells(*changes):
    """What news answers where it is these changes."""
    message = joined(changes)
    return [len(message)] + message


def joined(calls):
    return [number for call in calls for number in call]


def parted(numbers):
    parts = []
    at = 0
    while at < len(numbers):
        size = numbers[at]
        part = numbers[at + 1:at + 1 + size]
        if size < 1 or len(part) != size:
            raise AssertionError(f"answer {len(parts) + 1} has a wrong count")
        parts.append(part)
        at += 1 + size
    return parts


def ask(*calls):
    parts = parted(answers(joined(calls)))
    if len(parts) != len(calls):
        raise AssertionError(f"{len(calls)} calls, {len(parts)} answers")
    return parts


def last(*calls):
    return ask(*calls)[-1]


def shows(characters):
    """What text answers where the text is these characters."""
    row = [ord(c) for c in characters] if isinstance(characters, str) else list(characters)
    return [len(row)] + row


def knows(**of_who):
    """What known answers, e.g. knows(w0=3, w15=2)."""
    each = so_much(**of_who)
    return [sum(each)] + each
