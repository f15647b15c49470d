"""The interface: how calls and answers are written one behind another."""

import unittest

from helper import hear, joined, known, length, mark, new, news, parted, place, put, puts, shown, so_much, take, takes
from helper import text, then
from owncopies.copy import UnknownCall, answers


class Interface(unittest.TestCase):
    others = [hear(puts(6, 1, 9, None, "q"), takes(6, 2, 10, (6, 1))), hear(puts(6, 9, 1, None, "q")), hear([5]),
              news(99, so_much()), news(99, [-1] * 16), then(so_much(w6=1)), then(so_much(w6=3)), mark(0), mark(99),
              place(24577), place(0), shown(24577), shown(24578)]

    def test_one_call(self):
        self.assertEqual(answers([1, 0]), [1, 0])

    def test_just_the_list_that_is_asked(self):
        calls = [1, 5, 4, 0, 3, 97, 98, 99, 2, 3, 5, 1, 1, 3, 6, 1, 16, 4, 9, 1, 65, 4, 0, 0, 5, 0, 0]
        wanted = [1, 0, 1, 3, 1, 3, 4, 3, 97, 98, 99, 1, 1, 3, 2, 97, 99]
        wanted += [17, 4, 0, 0, 0, 0, 0, 4, 0, 0, 0, 0, 0, 0, 0, 0, 0, 0]
        wanted += [1, -1, 1, -1, 1, 0, 1, 0]
        self.assertEqual(answers(calls), wanted)

    def test_just_the_list_that_is_asked_of_the_calls_7_to_12(self):
        sixteen = [0] * 16
        change = [9, 0, 1, 0, 4, 0, 255, 0, 0, 0, 0, 0, 66, 0, 0, 0]
        calls = [1, 5, 4, 0, 1, 97, 8, 16] + change + [8, 0, 8, 1, 7, 7, 16, 16] + [0, 0, 0, 0, 0, 1] + [0] * 10
        calls += [7, 15, 16] + sixteen + [7, -1, 16] + sixteen + [9, 16] + [0] * 9 + [1] + [0] * 6
        calls += [9, 16] + [0] * 15 + [1] + [10, 0, 10, 2, 11, 20481, 11, 20482, 12, 36865, 12, -36865]
        wanted = [1, 0, 1, 1, 1, 1, 1, 0, 1, -1, 17, 16] + change + [1, 0, 1, -1, 2, 1, 66, 1, -1]
        wanted += [1, 36865, 1, -1, 1, 1, 1, -1, 1, 1, 1, -1]
        self.assertEqual(answers(calls), wanted)

    def test_numbers_that_look_like_calls_are_not_calls(self):
        calls = [1, 1, 4, 0, 6, 1, 2, 3, 4, 5, 6, 5, 2, 3, 3]
        self.assertEqual(answers(calls), [1, 0, 1, 6, 1, 3, 4, 3, 1, 2, 6])

    def test_whole_numbers_in_a_list(self):
        given = answers(joined([new(1), put(0, "ab"), take(0, 1), length(), text(), known(), put(7, ""), *self.others]))
        self.assertIs(type(given), list)
        self.assertTrue(all(type(number) is int for number in given))

    def test_what_is_handed_in_stays_as_it_was(self):
        calls = joined([new(1), put(0, "abcd"), take(1, 2), put(1, "xy"), text(), known(), put(9, "z"), *self.others, new(1), text()])
        before = list(calls)
        given = answers(calls)
        self.assertEqual(calls, before)
        given.append(7)
        self.assertEqual(calls, before)

    def test_two_uses_do_not_touch_each_other(self):
        calls = joined([new(1), put(0, "abc"), take(1, 1), text(), known(), *self.others])
        first = answers(calls)
        kept = list(first)
        self.assertEqual(answers([1, 1, 3, 6]), [1, 0, 1, 0, 17] + [0] * 17)
        self.assertEqual(answers([1, 6, 12, 24577, 10, 0, 11, 4097]), [1, 0, 1, -1, 1, -1, 1, -1])
        self.assertEqual(answers(calls), kept)
        self.assertEqual(first, kept)

    def test_the_most_calls_on_the_fullest_copy(self):
        calls = [new(15), put(0, [65] * 4000)]
        calls += [put(4000 + k, "b") for k in range(95)]
        calls += [length()] * 303
        given = answers(joined(calls))
        self.assertEqual(len(calls), 400)
        self.assertEqual(given, [1, 0, 1, 4000] + [1, 1] * 95 + [1, 4095] * 303)

    def test_the_longest_answers(self):
        calls = [new(15), put(0, list(range(4095)))] + [text()] * 240
        given = answers(joined(calls))
        # assertEqual would take minutes to show how lists of this size differ.
        self.assertTrue(given == [1, 0, 1, 4095] + ([4096, 4095] + list(range(4095))) * 240)

    def test_the_most_of_every_call_on_a_full_copy(self):
        first = [new(15), put(0, [65] * 2048), take(0, 2047), hear(*[puts(3, n, n, None, 66) for n in range(1, 701)])]
        everything = so_much(w15=4095, w3=700)
        for call, wanted in ((news(15, so_much()), [0]), (then(everything), [701] + [66] * 699 + [65, 66]), (mark(699), [63488]),
                             (place(63488), [699]), (shown(61441), [0]), (hear(puts(3, 1, 1, None, 66)), [0])):
            parts = parted(answers(joined(first + [call] * 396)))
            self.assertEqual(len(parts), 400)
            self.assertTrue(parts[4:] == [wanted] * 396, call[:2])

    def test_no_call_is_answered_by_another_number(self):
        for number in (-1, 0, 13):
            with self.assertRaises(UnknownCall):
                answers([1, 0, number])


if __name__ == "__main__":
    unittest.main()
