"""Promise 4: take."""

import unittest

from helper import ask, known, knows, last, length, new, put, shows, take, text

LOWEST = -2147483648
HIGHEST = 2147483647


class Places(unittest.TestCase):
    def test_every_stretch_of_a_text(self):
        word = "abcde"
        for at in range(6):
            for n in range(6 - at):
                answered = ask(new(8), put(0, word), take(at, n), text(), known())
                wanted = [[n], shows(word[:at] + word[at + n:]), knows(w8=5 + n)]
                self.assertEqual(answered[2:], wanted)

    def test_wrong_places_change_nothing(self):
        wrong = [(-1, 0), (-1, 1), (-1, 3), (0, -1), (1, -1), (3, -1), (-1, -1), (0, 4), (1, 3), (3, 1), (4, 0),
                 (4, -1), (5, -2), (LOWEST, 0), (0, LOWEST), (HIGHEST, 0), (0, HIGHEST), (HIGHEST, HIGHEST),
                 (LOWEST, HIGHEST), (HIGHEST, LOWEST), (LOWEST, LOWEST)]
        for at, n in wrong:
            answered = ask(new(8), put(0, "abc"), take(at, n), text(), known())
            self.assertEqual(answered[2:], [[-1], shows("abc"), knows(w8=3)], (at, n))

    def test_in_a_text_of_none(self):
        for at, n, wanted in ((0, 0, [0]), (0, 1, [-1]), (1, 0, [-1]), (-1, 0, [-1]), (0, -1, [-1]), (-1, 1, [-1])):
            self.assertEqual(last(new(8), take(at, n)), wanted)

    def test_places_count_the_text_and_not_what_was_taken_out(self):
        calls = [new(8), put(0, "abcdef"), take(1, 2)]
        self.assertEqual(last(*calls, take(0, 5)), [-1])
        self.assertEqual(last(*calls, take(3, 2)), [-1])
        self.assertEqual(ask(*calls, take(0, 2), text())[3:], [[2], shows("ef")])
        self.assertEqual(ask(*calls, take(1, 3), text(), known())[3:], [[3], shows("a"), knows(w8=11)])

    def test_what_is_put_between_is_taken_with_its_neighbours(self):
        calls = [new(8), put(0, "abcd"), put(2, "xy"), take(1, 3), text()]
        self.assertEqual(last(*calls), shows("acd"))

    def test_characters_alike_are_not_mixed_up(self):
        calls = [new(8), put(0, "aaXaa"), take(0, 2), text(), take(1, 1), text()]
        self.assertEqual(ask(*calls)[2:], [[2], shows("Xaa"), [1], shows("Xa")])


class Room(unittest.TestCase):
    def test_room_just_so_and_no_room(self):
        calls = [new(8), put(0, list(range(4000))), take(5, 96), length(), known(), take(5, 95), text(), known()]
        left = list(range(5)) + list(range(100, 4000))
        wanted = [[-4], [4000], knows(w8=4000), [95], shows(left), knows(w8=4095)]
        self.assertEqual(ask(*calls)[2:], wanted)

    def test_none_need_no_room(self):
        calls = [new(8), put(0, [65] * 4095), take(0, 0), take(4095, 0), take(0, 1), take(0, 4095), length(), known()]
        self.assertEqual(ask(*calls)[2:], [[0], [0], [-4], [-4], [4095], knows(w8=4095)])

    def test_wrong_comes_ahead_of_no_room(self):
        calls = [new(8), put(0, [65] * 4095)]
        for at, n in ((0, 4096), (-1, 1), (0, -1), (4095, 1), (1, 4095)):
            self.assertEqual(last(*calls, take(at, n)), [-1])

    def test_a_put_after_all_numbers_are_used_up_by_takes(self):
        calls = [new(8), put(0, [65] * 2048), take(0, 2047), put(0, "a"), take(0, 1), text()]
        self.assertEqual(ask(*calls)[2:], [[2047], [-4], [-4], shows("A")])


if __name__ == "__main__":
    unittest.main()
