"""Promise 7: hear."""

import itertools
import unittest

from helper import ask, hear, in_bytes, joined, known, knows, last, new, news, place, put, puts, shown, shows
from helper import so_much, take, takes, text
from owncopies.copy import answers
from owncopies.exchange import hear as hear_in
from owncopies.reading import known as known_in
from owncopies.state import State

HIGHEST = 2147483647
GOOD = puts(3, 1, 1, None, "a")


def with_byte(row, at, byte):
    return row[:at] + [byte] + row[at + 1:]


class Checks(unittest.TestCase):
    def check(self, wanted, calls, *changes):
        self.assertEqual(last(*calls, hear(*changes)), [wanted])

    def check_refused(self, wanted, calls, *changes):
        """It's refused, behind good changes too, and the copy is then as it was."""
        looks = [text(), known(), news(HIGHEST, so_much())]
        before = ask(*calls, *looks, put(0, "z"), *looks)[len(calls):]
        ahead = [puts(12, 1, 60000, None, "p"), puts(12, 2, 60001, (12, 1), "q"), takes(12, 3, 60002, (12, 1))]
        for message in (changes, ahead + list(changes), list(changes) + ahead):
            answered = ask(*calls, hear(*message), *looks, put(0, "z"), *looks)[len(calls):]
            self.assertEqual(answered, [[wanted]] + before)


class Ordinary(Checks):
    def test_an_empty_message(self):
        self.assertEqual(ask(new(2), hear(), text(), known())[1:], [[0], [0], knows()])
        self.assertEqual(ask(new(2), put(0, "ab"), hear(), text(), known())[2:], [[0], shows("ab"), knows(w2=2)])

    def test_one_change(self):
        for who in range(16):
            answered = ask(new(2), hear(puts(who, 1, 1, None, "a")), text(), known())
            self.assertEqual(answered[1:], [[1], shows("a"), knows(**{f"w{who}": 1})])

    def test_each_byte(self):
        row = [14, 0, 1, 0, 3, 2, 255, 0, 0, 0, 0, 0, 0x45, 0x23, 1, 0]
        row += [14, 0, 2, 0, 4, 2, 14, 0, 1, 0, 0, 0, 0xFF, 0xFF, 0x10, 0]
        row += [0, 1, 1, 0, 5, 2, 14, 0, 1, 0, 0, 0, 0, 0, 0, 0]
        answered = ask(new(2), hear(row[:32]), text(), hear(row), text(), put(1, "z"), news(16, so_much(w0=1, w14=2)))
        wanted = [[2], [2, 0x12345, 0x10FFFF], [1], [1, 0x10FFFF], [1], [16] + puts(2, 1, 0x206, (14, 2), "z")]
        self.assertEqual(answered[1:], wanted)

    def test_several_changes_behind_one_another(self):
        message = [puts(3, 1, 1, None, "a"), puts(3, 2, 2, (3, 1), "b"), puts(4, 1, 3, (3, 2), "c"),
                   takes(4, 2, 4, (3, 1)), puts(3, 3, 5, (4, 1), "d")]
        answered = ask(new(2), hear(*message), text(), known())
        self.assertEqual(answered[1:], [[5], shows("bcd"), knows(w3=3, w4=2)])

    def test_in_pieces(self):
        message = [puts(3, 1, 1, None, "a"), puts(3, 2, 2, (3, 1), "b"), puts(4, 1, 3, (3, 2), "c")]
        answered = ask(new(2), *[hear(change) for change in message], text(), known())
        self.assertEqual(answered[1:], [[1], [1], [1], shows("abc"), knows(w3=2, w4=1)])

    def test_the_own_whos_changes(self):
        message = [puts(2, 1, 5, None, "a"), takes(2, 2, 6, (2, 1)), puts(2, 3, 9, None, "b")]
        answered = ask(new(2), hear(*message), put(1, "c"), text(), known(), news(99, so_much(w2=3)))
        wanted = [[3], [1], shows("bc"), knows(w2=4), [16] + puts(2, 4, 10, (2, 3), "c")]
        self.assertEqual(answered[1:], wanted)

    def test_the_ends_of_every_number(self):
        message = [puts(0, 1, 1, None, 0), puts(15, 1, 65534, None, 0x10FFFF), takes(15, 2, 65535, (0, 1))]
        self.assertEqual(ask(new(2), hear(*message), text())[1:], [[3], [1, 0x10FFFF]])
        chain = [puts(15, n, n, (15, n - 1) if n > 1 else None, n) for n in range(1, 4096)]
        calls = [new(15), put(0, range(1, 4095)), hear(chain[-1])]
        self.assertEqual(last(*calls), [1])
        self.assertTrue(last(*calls, text()) == shows(range(1, 4096)))
        self.check(1, calls, puts(0, 1, 4096, (15, 4095), 5))

    def test_what_is_handed_in_stays_as_it_was(self):
        calls = joined([new(2), hear(GOOD, puts(4, 1, 2, (3, 1), "b")), hear(GOOD), hear(GOOD[:8]), text()])
        before = list(calls)
        answers(calls)
        self.assertEqual(calls, before)


class KnownAlready(Checks):
    calls = [new(2), put(0, "a"), hear(puts(3, 1, 5, (2, 1), "b"), takes(3, 2, 6, (2, 1)), puts(3, 3, 8, None, "c"))]
    alike = [puts(2, 1, 1, None, "a"), puts(3, 1, 5, (2, 1), "b"), takes(3, 2, 6, (2, 1)), puts(3, 3, 8, None, "c")]

    def test_alike(self):
        for change in self.alike:
            self.check(0, self.calls, change)
        answered = ask(*self.calls, hear(*self.alike), hear(*reversed(self.alike)), text(), known())
        self.assertEqual(answered[3:], [[0], [0], shows("cb"), knows(w2=1, w3=3)])

    def test_only_those_that_were_not_known_are_counted(self):
        new_ones = [puts(3, 4, 9, None, "d"), puts(0, 1, 10, (3, 4), "e")]
        message = [self.alike[1], new_ones[0], self.alike[0], new_ones[1], self.alike[3]]
        answered = ask(*self.calls, hear(*message), text(), known(), hear(*message), known())
        wanted = [[2], shows("decb"), knows(w0=1, w2=1, w3=4), [0], knows(w0=1, w2=1, w3=4)]
        self.assertEqual(answered[3:], wanted)

    def test_twice_in_one_message(self):
        answered = ask(new(2), hear(GOOD, GOOD), text(), known())
        self.assertEqual(answered[1:], [[1], shows("a"), knows(w3=1)])
        out = takes(4, 1, 2, (3, 1))
        answered = ask(new(2), hear(GOOD, out, GOOD, out, out), text(), known())
        self.assertEqual(answered[1:], [[2], [0], knows(w3=1, w4=1)])

    def test_otherwise(self):
        for other in (puts(2, 1, 1, None, "b"), puts(2, 1, 2, None, "a"), puts(2, 1, 1, (3, 1), "a"),
                      takes(2, 1, 1, (3, 1)), puts(3, 1, 5, None, "b"), puts(3, 1, 5, (2, 1), "c"),
                      puts(3, 1, 5, (3, 3), "b"), puts(3, 1, 6, (2, 1), "b"), puts(3, 1, 5, (2, 2), "b"),
                      takes(3, 2, 6, (3, 1)), takes(3, 2, 7, (2, 1)), puts(3, 2, 6, (2, 1), 0),
                      puts(3, 3, 8, (2, 1), "c"), puts(3, 3, 9, None, "c"), takes(3, 3, 8, (2, 1))):
            self.check_refused(-3, self.calls, other)

    def test_otherwise_than_earlier_in_the_message(self):
        other = puts(3, 1, 1, None, "b")
        self.check_refused(-3, [new(2)], GOOD, other)
        self.check_refused(-3, [new(2)], GOOD, GOOD, other, GOOD)

    def test_otherwise_comes_ahead_of_lacking(self):
        self.check_refused(-3, self.calls, puts(3, 1, 5, (9, 9), "b"))
        self.check_refused(-3, self.calls, takes(3, 2, 6, (9, 9)))

    def test_known_ones_need_no_room(self):
        self.check(0, [new(6), put(0, [65] * 4095), hear(puts(7, 1, 1, None, 5))], puts(7, 1, 1, None, 5))


class Form(Checks):
    def test_no_multiple_of_16(self):
        for size in list(range(1, 16)) + [17, 24, 31]:
            self.check_refused_size((GOOD * 2)[:size])
        self.check_refused_size([255] * 15)
        self.check_refused_size([0])

    def check_refused_size(self, message):
        answered = ask(new(2), put(0, "x"), hear(message), text(), known())
        self.assertEqual(answered[2:], [[-1], shows("x"), knows(w2=1)])

    def test_a_wrong_size_comes_ahead_of_every_change(self):
        bad = puts(9, 2, 1, None, "a")
        self.check(-2, [new(2)], bad)
        self.check(-1, [new(2)], bad, [0])

    def test_who(self):
        for who in (16, 17, 100, 254, 255):
            self.check_refused(-1, [new(2)], with_byte(GOOD, 0, who))

    def test_kind(self):
        for kind in (2, 3, 128, 255):
            self.check_refused(-1, [new(2), put(0, "x")], in_bytes(3, kind, 1, 9, (2, 1), 0))
            self.check_refused(-1, [new(2)], with_byte(GOOD, 1, kind))

    def test_n(self):
        for n in (0, 4096, 4097, 65535):
            self.check_refused(-1, [new(2)], puts(3, n, 1, None, "a"))
            self.check_refused(-1, [new(2), put(0, "x")], takes(3, n, 9, (2, 1)))
        self.check_refused(-2, [new(2)], puts(3, 4095, 1, None, "a"))

    def test_stamp(self):
        self.check_refused(-1, [new(2)], puts(3, 1, 0, None, "a"))
        self.check_refused(-1, [new(2), put(0, "x")], takes(3, 1, 0, (2, 1)))
        self.check(1, [new(2)], puts(3, 1, 256, None, "a"))

    def test_the_marks_who(self):
        for who in (16, 17, 128, 254):
            self.check_refused(-1, [new(2), put(0, "x")], puts(3, 1, 9, (who, 1), "a"))
            self.check_refused(-1, [new(2), put(0, "x")], puts(3, 1, 9, (who, 0), "a"))
            self.check_refused(-1, [new(2), put(0, "x")], takes(3, 1, 9, (who, 1)))

    def test_the_marks_n(self):
        for n in (0, 4096, 4097, 65535):
            self.check_refused(-1, [new(2), put(0, "x")], puts(3, 1, 9, (2, n), "a"))
            self.check_refused(-1, [new(2), put(0, "x")], takes(3, 1, 9, (2, n)))
        self.check_refused(-2, [new(2), put(0, "x")], puts(3, 1, 9, (2, 4095), "a"))

    def test_the_beginning(self):
        for n in (1, 2, 256, 4095, 65535):
            self.check_refused(-1, [new(2), put(0, "x")], puts(3, 1, 9, (255, n), "a"))
            self.check_refused(-1, [new(2), put(0, "x")], takes(3, 1, 9, (255, n)))
        self.check_refused(-1, [new(2), put(0, "x")], takes(3, 1, 9, (255, 0)))

    def test_something_where_a_0_is_asked(self):
        for good in (puts(3, 1, 9, None, "a"), puts(3, 1, 9, (2, 1), "a"), takes(3, 1, 9, (2, 1))):
            self.check(1, [new(2), put(0, "x")], good)
            for at, byte in itertools.product((7, 10, 11), (1, 128, 255)):
                self.check_refused(-1, [new(2), put(0, "x")], with_byte(good, at, byte))

    def test_a_character_where_it_takes_out(self):
        good = takes(3, 1, 9, (2, 1))
        for at, byte in itertools.product((12, 13, 14, 15), (1, 16, 255)):
            self.check_refused(-1, [new(2), put(0, "x")], with_byte(good, at, byte))

    def test_a_character_above(self):
        for above in (0x110000, 0x110001, 0x200000, 0x1000000, 0xFFFFFFFF):
            self.check_refused(-1, [new(2)], puts(3, 1, 1, None, above))
            self.check_refused(-1, [new(2), put(0, "x")], puts(3, 1, 9, (2, 1), above))

    def test_the_form_comes_ahead_of_all_else(self):
        calls = [new(2), put(0, "x")]
        known_otherwise = puts(2, 1, 1, None, "y")
        lacking = puts(3, 2, 1, (9, 9), "y")
        at_odds = puts(3, 1, 1, (2, 1), "y")
        for wanted, row in ((-3, known_otherwise), (-2, lacking), (-3, at_odds)):
            self.check_refused(wanted, calls, row)
            self.check_refused(-1, calls, with_byte(row, 7, 1))
            self.check_refused(-1, calls, with_byte(row, 14, 0x11))
            self.check_refused(-1, calls, with_byte(row, 1, 2))

    def test_a_known_change_not_in_the_form(self):
        self.check_refused(-1, [new(2), hear(GOOD)], with_byte(GOOD, 11, 1))


class Lacking(Checks):
    def test_the_one_before_it(self):
        for n in (2, 3, 4095):
            self.check_refused(-2, [new(2)], puts(3, n, 9, None, "a"))
            self.check_refused(-2, [new(2), put(0, "xy")], takes(3, n, 9, (2, 1)))
        self.check_refused(-2, [new(2), hear(GOOD)], puts(3, 3, 9, None, "a"))
        self.check_refused(-2, [new(2), hear(GOOD)], puts(2, 2, 9, None, "a"))
        self.check(1, [new(2), hear(GOOD)], puts(3, 2, 9, None, "a"))

    def test_the_mark(self):
        calls = [new(2), put(0, "x"), hear(puts(3, 1, 3, None, "a"))]
        for lacking in ((2, 2), (3, 2), (3, 4095), (4, 1), (0, 1), (15, 1)):
            self.check_refused(-2, calls, puts(5, 1, 9, lacking, "b"))
            self.check_refused(-2, calls, takes(5, 1, 9, lacking))

    def test_its_own_mark(self):
        self.check_refused(-2, [new(2)], puts(5, 1, 9, (5, 1), "b"))
        self.check_refused(-2, [new(2)], takes(5, 1, 9, (5, 1)))

    def test_what_comes_only_later_in_the_message(self):
        first, second = puts(5, 1, 3, None, "a"), puts(5, 2, 4, (5, 1), "b")
        self.check_refused(-2, [new(2)], second, first)
        self.check_refused(-2, [new(2)], puts(6, 1, 5, (5, 1), "c"), first)
        self.check(2, [new(2)], first, second)

    def test_it_comes_ahead_of_at_odds_and_no_room(self):
        calls = [new(2), put(0, "xy"), take(0, 1)]
        # no mark, and a stamp that isn't above: the one before it is lacking all the same
        self.check_refused(-2, calls, puts(3, 2, 9, (2, 3), "a"))
        self.check_refused(-2, calls, puts(3, 2, 1, (2, 2), "a"))
        # the stamp isn't above that of the one before it, but the mark is lacking
        self.check_refused(-2, calls, puts(2, 4, 1, (9, 1), "a"))
        full = [new(6), put(0, [65] * 4095), hear(puts(7, 1, 1, None, 5))]
        self.check(-4, full, puts(7, 2, 2, None, 5))
        self.check(-2, full, puts(7, 3, 2, None, 5))
        self.check(-2, full, puts(7, 2, 2, (8, 1), 5))


class AtOdds(Checks):
    calls = [new(2), put(0, "xy"), take(0, 1), hear(puts(3, 1, 7, None, "a"))]

    def test_no_mark(self):
        self.check_refused(-3, self.calls, puts(4, 1, 9, (2, 3), "b"))
        self.check_refused(-3, self.calls, takes(4, 1, 9, (2, 3)))
        message = [puts(4, 1, 9, None, "b"), takes(4, 2, 10, (4, 1))]
        self.check_refused(-3, self.calls, *message, takes(4, 3, 11, (4, 2)))
        self.check_refused(-3, self.calls, *message, puts(4, 3, 11, (4, 2), "c"))

    def test_a_stamp_not_above_that_of_the_mark(self):
        for stamp, wanted in ((1, -3), (6, -3), (7, -3), (8, 1), (65535, 1)):
            for change in (puts(4, 1, stamp, (3, 1), "b"), takes(4, 1, stamp, (3, 1))):
                if wanted == 1:
                    self.check(1, self.calls, change)
                else:
                    self.check_refused(wanted, self.calls, change)

    def test_a_stamp_not_above_that_of_the_one_before_it(self):
        for stamp, wanted in ((1, -3), (6, -3), (7, -3), (8, 1), (65535, 1)):
            for change in (puts(3, 2, stamp, None, "b"), puts(3, 2, stamp, (2, 1), "b"), takes(3, 2, stamp, (2, 2))):
                if wanted == 1:
                    self.check(1, self.calls, change)
                else:
                    self.check_refused(wanted, self.calls, change)

    def test_above_one_but_not_the_other(self):
        first = [puts(4, 1, 20, None, "b"), puts(5, 1, 10, None, "c")]
        for change in (puts(5, 2, 15, (4, 1), "d"), puts(4, 2, 15, (5, 1), "d"), takes(5, 2, 20, (4, 1)),
                       takes(4, 2, 20, (5, 1))):
            self.check_refused(-3, self.calls, *first, change)
        for change in (puts(5, 2, 21, (4, 1), "d"), takes(4, 2, 21, (5, 1))):
            self.check(3, self.calls, *first, change)

    def test_a_stamp_below_others_that_it_has_nothing_to_do_with(self):
        self.check(1, self.calls, puts(4, 1, 1, None, "b"))
        self.check(1, self.calls, puts(4, 1, 2, (2, 1), "b"))

    def test_it_comes_ahead_of_no_room(self):
        full = [new(6), put(0, [65] * 4094), take(0, 1), hear(puts(7, 1, 1, None, 5), puts(7, 2, 2, None, 5))]
        self.check(-4, full, puts(7, 3, 4096, None, 5))
        self.check(-3, full, puts(7, 3, 2, None, 5))
        self.check(-3, full, puts(7, 3, 4096, (6, 4095), 5))
        self.check(-3, full, puts(7, 3, 7, (6, 7), 5))


class FirstChangeSays(Checks):
    calls = [new(2), put(0, "xy"), take(0, 1)]
    refused = {-1: [puts(3, 0, 1, None, "a"), puts(16, 1, 1, None, "a")], -2: [puts(3, 2, 9, None, "a")],
               -3: [puts(2, 1, 1, None, "b"), takes(3, 1, 9, (2, 3)), puts(3, 1, 1, (2, 1), "a")]}

    def test_the_first_refused_change_says_the_answer(self):
        for one, other in itertools.permutations(self.refused, 2):
            for first, second in itertools.product(self.refused[one], self.refused[other]):
                self.check_refused(one, self.calls, first, second)

    def test_no_room_ahead_of_another(self):
        full = [new(6), put(0, [65] * 4095)]
        fits, over = puts(7, 1, 1, None, 5), puts(7, 2, 2, None, 5)
        for bad in (with_byte(GOOD, 1, 9), puts(8, 2, 9, None, 5), puts(7, 1, 2, None, 5)):
            self.check(-4, full, fits, over, bad)
            self.check(bad_answer(bad), full, fits, bad, over)


def bad_answer(row):
    return -1 if row[1] == 9 else -2 if row[0] == 8 else -3


class Order(Checks):
    def check_each_order(self, wanted, calls, changes, at_least=1):
        """In whatever order they come, where nothing lacks, it's the same text."""
        good = 0
        for order in itertools.permutations(changes):
            one_by_one = ask(*calls, *[hear(change) for change in order], text())[len(calls):]
            if all(answer == [1] for answer in one_by_one[:-1]):
                good += 1
                self.assertEqual(one_by_one[-1], shows(wanted))
                self.assertEqual(last(*calls, hear(*order), text()), shows(wanted))
        self.assertGreaterEqual(good, at_least)

    def test_at_the_beginning_with_other_stamps(self):
        changes = [puts(3, 1, 5, None, "a"), puts(1, 1, 7, None, "b"), puts(9, 1, 6, None, "c"), puts(4, 1, 1, None, "d")]
        self.check_each_order("bcad", [new(0)], changes, 24)

    def test_at_the_beginning_with_one_stamp(self):
        changes = [puts(3, 1, 5, None, "a"), puts(1, 1, 5, None, "b"), puts(15, 1, 5, None, "c"), puts(0, 1, 5, None, "d")]
        self.check_each_order("cabd", [new(0)], changes, 24)

    def test_behind_a_mark_with_one_stamp_and_with_others(self):
        changes = [puts(3, 1, 5, (0, 1), "a"), puts(1, 1, 5, (0, 1), "b"), puts(15, 1, 4, (0, 1), "c"),
                   puts(2, 1, 6, (0, 1), "d")]
        self.check_each_order("xdabcy", [new(0), put(0, "xy")], changes, 24)

    def test_the_own_mark_beside_those_of_others(self):
        changes = [puts(3, 1, 1, None, "a"), puts(1, 1, 2, None, "b"), puts(5, 1, 3, None, "c")]
        # the own x has the stamp 1, and the lower who of two with it
        self.check_each_order("cbax", [new(0), put(0, "x")], changes, 6)
        self.check_each_order("cbxa", [new(15), put(0, "x")], changes, 6)

    def test_each_is_followed_by_those_behind_it(self):
        changes = [puts(1, 1, 1, None, "a"), puts(2, 1, 2, None, "b"), puts(1, 2, 3, (2, 1), "c"),
                   puts(3, 1, 4, (1, 1), "d"), puts(2, 2, 5, (1, 2), "e")]
        self.check_each_order("bcead", [new(0)], changes, 5)

    def test_a_greater_stamp_deeper_down_does_not_part_them(self):
        # behind a: b (stamp 3) with its c (stamp 9), and then d (stamp 3, lower who), e (stamp 2) with its f
        changes = [puts(1, 1, 1, None, "a"), puts(5, 1, 3, (1, 1), "b"), puts(6, 1, 9, (5, 1), "c"),
                   puts(4, 1, 3, (1, 1), "d"), puts(7, 1, 2, (1, 1), "e"), puts(8, 1, 8, (7, 1), "f")]
        self.check_each_order("abcdef", [new(0)], changes, 20)

    def test_those_behind_a_mark_stand_ahead_of_the_next_of_a_greater_who(self):
        # g and h both at the beginning with one stamp; i behind g with the next
        changes = [puts(9, 1, 4, None, "g"), puts(8, 1, 4, None, "h"), puts(1, 1, 5, (9, 1), "i"), puts(2, 1, 5, (8, 1), "j")]
        self.check_each_order("gihj", [new(0)], changes, 6)

    def test_a_mark_behind_one_that_is_taken_out(self):
        calls = [new(0), put(0, "xyz"), take(1, 1)]
        self.assertEqual(last(*calls, hear(puts(3, 1, 9, (0, 2), "a")), text()), shows("xaz"))
        calls = [new(0), put(0, "x"), take(0, 1)]
        self.assertEqual(last(*calls, hear(puts(3, 1, 9, (0, 1), "a")), text()), shows("a"))
        changes = [puts(1, 1, 1, None, "a"), takes(2, 1, 2, (1, 1)), puts(3, 1, 2, (1, 1), "b"), puts(4, 1, 2, (1, 1), "c")]
        self.check_each_order("cb", [new(0)], changes, 6)

    def test_a_mark_that_is_taken_out_by_several(self):
        changes = [puts(1, 1, 1, None, "a"), takes(2, 1, 2, (1, 1)), takes(3, 1, 2, (1, 1)), takes(1, 2, 5, (1, 1))]
        self.check_each_order("", [new(0)], changes, 6)

    def test_a_take_ahead_of_those_behind(self):
        calls = [new(0), hear(puts(1, 1, 1, None, "a"), puts(1, 2, 2, (1, 1), "b"), takes(2, 1, 3, (1, 1)))]
        self.assertEqual(ask(*calls, text(), place(4097), shown(4097))[2:], [shows("b"), [0], [0]])


class Room(Checks):
    def test_4096_marks(self):
        many = [puts(7, n, n, None, 66) for n in range(1, 98)]
        calls = [new(6), put(0, [65] * 4000)]
        self.assertEqual(ask(*calls, hear(*many), text(), known())[2:], [[-4], shows([65] * 4000), knows(w6=4000)])
        answered = ask(*calls, hear(*many[:96]), known(), hear(many[96]), hear(*many[90:]), known())
        wanted = [[96], knows(w6=4000, w7=96), [-4], [-4], knows(w6=4000, w7=96)]
        self.assertEqual(answered[2:], wanted)

    def test_marks_that_are_taken_out_have_their_room_still(self):
        calls = [new(6), put(0, [65] * 4000), hear(*[puts(7, n, n, None, 66) for n in range(1, 97)]), take(0, 50)]
        self.check(-4, calls, puts(8, 1, 1, None, 67))

    def test_takes_need_no_room_for_marks(self):
        calls = [new(6), put(0, [65] * 4095), hear(puts(7, 1, 1, None, 66))]
        out = [takes(8, n, 5000 + n, (6, n)) for n in range(1, 11)]
        self.assertEqual(ask(*calls, hear(*out), known())[3:], [[10], knows(w6=4095, w7=1, w8=10)])
        self.check(-4, calls, *out, puts(8, 11, 6000, None, 67))

    def test_the_own_numbers_and_stamps_leave_room_for_others(self):
        calls = [new(6), put(0, [65] * 4095), put(0, "a")]
        self.assertEqual(ask(*calls, hear(puts(7, 1, 1, None, 66)))[2:], [[-4], [1]])
        calls = [new(6), hear(puts(7, 1, 65535, None, 66)), put(0, "a")]
        self.assertEqual(ask(*calls, hear(puts(8, 1, 65535, None, 66)), hear(puts(6, 1, 1, None, 67)))[2:], [[-4], [1], [1]])

    def test_8192_changes(self):
        state = State()
        message = puts(1, 1, 1, None, 65)
        for who, count in ((2, 4095), (3, 4090)):
            message += joined([takes(who, n, n + 1, (1, 1)) for n in range(1, count + 1)])
        self.assertEqual(hear_in(state, message), [8186])
        more = [takes(4, n, n + 1, (1, 1)) for n in range(1, 8)]
        self.assertEqual(hear_in(state, joined(more)), [-4])
        self.assertEqual(known_in(state), [8186, 0, 1, 4095, 4090] + [0] * 12)
        self.assertEqual(hear_in(state, joined(more[:6])), [6])
        self.assertEqual(hear_in(state, more[6]), [-4])
        self.assertEqual(hear_in(state, puts(5, 1, 1, None, 65)), [-4])
        self.assertEqual(hear_in(state, joined(more[:6])), [0])
        self.assertEqual(known_in(state), [8192, 0, 1, 4095, 4090, 6] + [0] * 11)

    def test_new_gives_all_room_back(self):
        calls = [new(6), put(0, [65] * 4095), hear(puts(7, 1, 1, None, 66)), new(6), put(0, [65] * 4095)]
        self.check(1, calls, puts(7, 1, 1, None, 66))


class Long(Checks):
    def test_the_longest_message_behind_one_another(self):
        chain = [puts(9, n, n, (9, n - 1) if n > 1 else None, n) for n in range(1, 1869)]
        answered = ask(new(1), hear(*chain), text())
        self.assertEqual(answered[1], [1868])
        self.assertEqual(answered[2], shows(range(1, 1869)))

    def test_the_longest_message_each_ahead_of_the_one_before(self):
        row = [puts(9, n, n, None, n) for n in range(1, 1869)]
        self.assertEqual(last(new(1), hear(*row), text()), shows(range(1868, 0, -1)))

    def test_many_marks_that_come_behind_all_others(self):
        calls = [new(1), hear(puts(2, 1, 50000, None, 7)), put(1, [8] * 2500)]
        row = [puts(9, n, n, None, n) for n in range(1, 1501)]
        self.assertEqual(last(*calls, hear(*row), text()), shows([7] + [8] * 2500 + list(range(1500, 0, -1))))

    def test_4096_marks_behind_one_another(self):
        calls = [new(1), put(0, range(4000)), hear(*[puts(2, n, 4000 + n, (2, n - 1) if n > 1 else (1, 4000), n)
                                                    for n in range(1, 97)])]
        self.assertEqual(last(*calls, text()), shows(list(range(4000)) + list(range(1, 97))))


if __name__ == "__main__":
    unittest.main()
