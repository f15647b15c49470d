"""Promise 1: new."""

import unittest

from helper import ask, known, knows, last, length, new, put, shows, take, text

LOWEST = -2147483648
HIGHEST = 2147483647


class New(unittest.TestCase):
    def test_each_who_is_taken(self):
        for who in range(16):
            self.assertEqual(ask(new(who)), [[0]])

    def test_who_out_of_range_is_wrong(self):
        for who in (LOWEST, -2, -1, 16, 17, 255, HIGHEST):
            self.assertEqual(ask(new(0), new(who)), [[0], [-1]])

    def test_a_new_copy_knows_nothing(self):
        for who in (0, 7, 15):
            self.assertEqual(ask(new(who), length(), text(), known()), [[0], [0], [0], knows()])

    def test_new_again_forgets_everything(self):
        calls = [new(0), put(0, "abc"), take(1, 1), new(0), length(), text(), known()]
        self.assertEqual(ask(*calls)[3:], [[0], [0], [0], knows()])

    def test_new_again_makes_it_another_whos_copy(self):
        calls = [new(3), put(0, "abc"), new(15), put(0, "de"), text(), known()]
        self.assertEqual(ask(*calls)[2:], [[0], [2], shows("de"), knows(w15=2)])

    def test_new_again_gives_all_room_back(self):
        many = [65] * 4095
        self.assertEqual(last(new(2), put(0, many), new(2), put(0, many)), [4095])

    def test_what_was_taken_out_before_is_shown_when_put_anew(self):
        calls = [new(4), put(0, "ab"), take(0, 2), new(4), put(0, "ab"), text()]
        self.assertEqual(last(*calls), shows("ab"))

    def test_a_refused_new_leaves_the_copy_as_it_was(self):
        for who in (LOWEST, -1, 16, HIGHEST):
            calls = [new(5), put(0, "abc"), take(1, 1), new(who), text(), known(), put(2, "d"), text(), known()]
            wanted = [[-1], shows("ac"), knows(w5=4), [1], shows("acd"), knows(w5=5)]
            self.assertEqual(ask(*calls)[3:], wanted)


if __name__ == "__main__":
    unittest.main()
