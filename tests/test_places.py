"""Promises 9 and 10: mark, place and shown."""

import unittest

from helper import ask, hear, known, knows, last, mark, new, place, put, puts, shown, shows, take, takes, text

LOWEST = -2147483648
HIGHEST = 2147483647


def each(call, numbers, *calls):
    """The answers to one call after another on the same copy, each one number."""
    answered = ask(*calls, *[call(number) for number in numbers])[len(calls):]
    return [number for answer in answered for number in answer]


class Mark(unittest.TestCase):
    def test_the_own_marks_in_order(self):
        self.assertEqual(each(mark, range(4), new(0), put(0, "ac"), put(1, "b"), put(0, "z")), [4, 1, 3, 2])
        self.assertEqual(each(mark, range(2), new(1), put(0, "ab")), [4097, 4098])
        self.assertEqual(each(mark, range(2), new(15), put(0, "ab")), [61441, 61442])

    def test_marks_of_others(self):
        heard = [puts(3, 1, 5, None, "a"), puts(9, 1, 6, (3, 1), "b"), puts(0, 1, 5, None, "c")]
        self.assertEqual(each(mark, range(4), new(2), hear(*heard), put(1, "x")), [12289, 8193, 36865, 1])

    def test_a_place_outside_the_text_is_wrong(self):
        self.assertEqual(each(mark, (LOWEST, -3, -1, 3, 4, 4097, HIGHEST), new(1), put(0, "abc")), [-1] * 7)
        self.assertEqual(each(mark, (-1, 0, 1), new(1)), [-1] * 3)
        self.assertEqual(each(mark, (-1, 0, 1), new(1), put(0, "ab"), take(0, 2)), [-1] * 3)
        self.assertEqual(each(mark, (-1, 0, 1), new(1), put(0, "ab"), new(1)), [-1] * 3)

    def test_places_count_the_text_and_not_what_was_taken_out(self):
        calls = [new(1), put(0, "abcde"), take(0, 1), take(1, 2)]
        self.assertEqual(each(mark, range(3), *calls), [4098, 4101, -1])

    def test_takes_use_up_numbers(self):
        self.assertEqual(each(mark, range(2), new(1), put(0, "ab"), take(0, 1), put(1, "c")), [4098, 4100])

    def test_the_greatest_number(self):
        self.assertEqual(each(mark, (0, 4094, 4095), new(15), put(0, [65] * 4095)), [61441, 65535, -1])


class PlaceAndShown(unittest.TestCase):
    def test_marks_in_the_text(self):
        calls = [new(1), put(0, "abc"), put(1, "xy")]
        numbers = [4097, 4100, 4101, 4098, 4099]
        self.assertEqual(each(place, numbers, *calls), [0, 1, 2, 3, 4])
        self.assertEqual(each(shown, numbers, *calls), [1] * 5)

    def test_marks_that_are_taken_out(self):
        calls = [new(1), put(0, "abcdef"), take(0, 1), take(1, 2), take(2, 1)]
        numbers = [4097, 4098, 4099, 4100, 4101, 4102]
        self.assertEqual(each(place, numbers, *calls), [0, 0, 1, 1, 1, 2])
        self.assertEqual(each(shown, numbers, *calls), [0, 1, 0, 0, 1, 0])

    def test_a_change_that_takes_out_is_no_mark(self):
        calls = [new(1), put(0, "abc"), take(1, 1), put(0, "d")]
        numbers = [4096, 4097, 4098, 4099, 4100, 4101, 4102]
        self.assertEqual(each(place, numbers, *calls), [-1, 1, 2, 2, -1, 0, -1])
        self.assertEqual(each(shown, numbers, *calls), [-1, 1, 0, 1, -1, 1, -1])

    def test_numbers_of_no_mark(self):
        heard = [puts(who, 1, 1, None, 65) for who in range(16)]
        numbers = [0, 2, 4095, 4096, 4098, 8191, 8192, 61440, 61442, 65535, 65536, 65537, 69633, 131073, 4294967 * 100,
                   HIGHEST, HIGHEST - 4095 + 1, -1, -2, -4095, -4096, -4097, -65535, -65536, LOWEST, LOWEST + 1]
        for calls in ([new(0)], [new(0), hear(*heard)], [new(7), hear(*heard)]):
            self.assertEqual(each(place, numbers, *calls), [-1] * len(numbers))
            self.assertEqual(each(shown, numbers, *calls), [-1] * len(numbers))

    def test_nothing_is_known_after_new(self):
        for call in (place, shown):
            self.assertEqual(each(call, (1, 4097), new(1), put(0, "a"), new(1)), [-1, -1])
            self.assertEqual(each(call, (4097,), new(1), put(0, "a"), take(0, 1), new(1)), [-1])
            self.assertEqual(each(call, (4097,), new(1), hear(puts(1, 1, 1, None, "a")), new(1)), [-1])

    def test_marks_of_others(self):
        heard = [puts(3, 1, 5, None, "a"), puts(9, 1, 6, (3, 1), "b"), takes(3, 2, 7, (3, 1)), puts(0, 1, 5, None, "c"),
                 puts(15, 1, 9, (3, 1), "d"), takes(15, 2, 10, (9, 1))]
        # in order: 3 1 (out), 15 1, 9 1 (out), 0 1
        numbers = [12289, 61441, 36865, 1, 12290, 61442, 36866, 2]
        self.assertEqual(each(place, numbers, new(2), hear(*heard)), [0, 0, 1, 1, -1, -1, -1, -1])
        self.assertEqual(each(shown, numbers, new(2), hear(*heard)), [0, 1, 0, 1, -1, -1, -1, -1])

    def test_a_mark_of_a_refused_message_is_not_known(self):
        refused = hear(puts(3, 1, 5, None, "a"), puts(9, 1, 6, (4, 1), "b"))
        for call in (place, shown):
            self.assertEqual(each(call, (12289,), new(2), refused), [-1])

    def test_a_mark_that_a_refused_message_takes_out_is_shown(self):
        refused = hear(takes(3, 1, 5, (2, 1)), puts(9, 1, 6, (4, 1), "b"))
        self.assertEqual(each(shown, (8193,), new(2), put(0, "a"), refused), [1])

    def test_a_mark_keeps_its_number_where_others_come_and_go(self):
        calls = [new(1), put(0, "abc"), put(2, "xy"), take(0, 1), put(0, "1234"), hear(puts(2, 1, 2, None, "q"))]
        # the text: 1234qbxyc
        self.assertEqual(each(place, (4097, 4098, 4099), *calls), [5, 5, 8])
        self.assertEqual(ask(*calls, mark(5), mark(8))[-2:], [[4098], [4099]])

    def test_taken_out_twice(self):
        heard = [takes(2, 1, 4, (1, 2)), takes(3, 1, 5, (1, 2))]
        calls = [new(1), put(0, "abc"), take(1, 1), hear(*heard)]
        self.assertEqual(each(place, (4097, 4098, 4099), *calls), [0, 1, 1])
        self.assertEqual(each(shown, (4097, 4098, 4099, 8193, 12289), *calls), [1, 0, 1, -1, -1])

    def test_mark_and_place_answer_each_other(self):
        calls = [new(1), put(0, "abcdefgh"), take(2, 3), put(3, "xyz"), hear(puts(2, 1, 2, None, "q")), take(5, 1)]
        size = last(*calls, text())[0]
        numbers = each(mark, range(size), *calls)
        self.assertEqual(each(place, numbers, *calls), list(range(size)))
        self.assertEqual(each(shown, numbers, *calls), [1] * size)

    def test_asking_changes_nothing(self):
        asked = [mark(0), mark(5), place(4097), place(9), shown(4097), shown(9)]
        self.assertEqual(ask(new(1), put(0, "ab"), *asked, text(), known())[-2:], [shows("ab"), knows(w1=2)])

    def test_4096_marks_behind_one_another(self):
        calls = [new(6), put(0, [65] * 4095), hear(puts(7, 1, 4096, (6, 4095), 9))]
        self.assertEqual(each(place, (24577, 28671, 28672, 28673), *calls), [0, 4094, -1, 4095])
        self.assertEqual(each(mark, (4094, 4095, 4096), *calls), [28671, 28673, -1])


if __name__ == "__main__":
    unittest.main()
