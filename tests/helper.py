"""Writes calls as lists, and parts the list of answers into one list a call."""

from owncopies.copy import answers


def new(who):
    return [1, who]


def length():
    return [2]


def text():
    return [3]


def put(at, characters):
    row = [ord(c) for c in characters] if isinstance(characters, str) else list(characters)
    return [4, at, len(row)] + row


def take(at, n):
    return [5, at, n]


def known():
    return [6]


def joined(calls):
    return [number for call in calls for number in call]


def parted(numbers):
    parts = []
    at = 0
    while at < len(numbers):
        size = numbers[at]
        part = numbers[at + 1:at + 1 + size]
        if size < 1 or len(part) != size:
            raise AssertionError(f"answer {len(parts) + 1} has a wrong count")
        parts.append(part)
        at += 1 + size
    return parts


def ask(*calls):
    parts = parted(answers(joined(calls)))
    if len(parts) != len(calls):
        raise AssertionError(f"{len(calls)} calls, {len(parts)} answers")
    return parts


def last(*calls):
    return ask(*calls)[-1]


def shows(characters):
    """What text answers where the text is these characters."""
    row = [ord(c) for c in characters] if isinstance(characters, str) else list(characters)
    return [len(row)] + row


def knows(**of_who):
    """What known answers, e.g. knows(w0=3, w15=2)."""
    each = [of_who.get(f"w{who}", 0) for who in range(16)]
    return [sum(each)] + each
