"""Promise 3: put."""

import unittest

from helper import ask, known, knows, last, length, new, put, shows, take, text
from owncopies.state import State
from owncopies.writing import put as put_in

LOWEST = -2147483648
HIGHEST = 2147483647
ABOVE = 0x110000


class Places(unittest.TestCase):
    def test_at_from_0_to_the_length(self):
        for at, wanted in enumerate(("xyabc", "axybc", "abxyc", "abcxy")):
            answered = ask(new(9), put(0, "abc"), put(at, "xy"), text(), known())
            self.assertEqual(answered[2:], [[2], shows(wanted), knows(w9=5)])

    def test_at_outside_is_wrong_and_changes_nothing(self):
        for at in (LOWEST, -1, 4, 5, HIGHEST):
            for characters in ("", "x", "xy"):
                answered = ask(new(9), put(0, "abc"), put(at, characters), text(), known())
                self.assertEqual(answered[2:], [[-1], shows("abc"), knows(w9=3)])

    def test_in_a_text_of_none(self):
        for at, wanted in ((-1, [-1]), (0, [1]), (1, [-1])):
            self.assertEqual(last(new(0), put(at, "x")), wanted)

    def test_at_counts_the_text_and_not_what_was_taken_out(self):
        calls = [new(0), put(0, "abcd"), take(0, 2)]
        self.assertEqual(last(*calls, put(3, "x")), [-1])
        self.assertEqual(last(*calls, put(2, "x"), text()), shows("cdx"))

    def test_next_to_characters_that_were_taken_out(self):
        calls = [new(0), put(0, "abcdef"), take(2, 2)]
        for at, wanted in enumerate(("xyabef", "axybef", "abxyef", "abexyf", "abefxy")):
            self.assertEqual(last(*calls, put(at, "xy"), text()), shows(wanted))

    def test_where_the_first_or_the_last_were_taken_out(self):
        self.assertEqual(last(new(0), put(0, "abc"), take(0, 2), put(0, "x"), text()), shows("xc"))
        self.assertEqual(last(new(0), put(0, "abc"), take(1, 2), put(1, "x"), text()), shows("ax"))

    def test_where_all_were_taken_out(self):
        self.assertEqual(last(new(0), put(0, "abc"), take(0, 3), put(0, "xyz"), text()), shows("xyz"))


class Characters(unittest.TestCase):
    def test_none(self):
        for at in (0, 1, 2):
            answered = ask(new(1), put(0, "ab"), put(at, ""), text(), known())
            self.assertEqual(answered[2:], [[0], shows("ab"), knows(w1=2)])
        self.assertEqual(ask(new(1), put(0, ""), text(), known())[1:], [[0], [0], knows()])

    def test_one(self):
        self.assertEqual(ask(new(1), put(0, "a"), text(), known())[1:], [[1], shows("a"), knows(w1=1)])

    def test_many(self):
        many = list(range(3000))
        answered = ask(new(1), put(0, "ab"), put(1, many), length(), text(), known())
        self.assertEqual(answered[2:], [[3000], [3002], shows([97] + many + [98]), knows(w1=3002)])

    def test_each_put_behind_the_one_before(self):
        puts = [put(at, [at]) for at in range(300)]
        self.assertEqual(last(new(1), *puts, text()), shows(range(300)))

    def test_each_put_at_the_beginning(self):
        puts = [put(0, [k]) for k in range(300)]
        self.assertEqual(last(new(1), *puts, text()), shows(range(299, -1, -1)))

    def test_the_least_and_the_greatest_character(self):
        for row in ([0], [0x10FFFF], [0, 0x10FFFF], [0x10FFFF, 5, 0]):
            self.assertEqual(ask(new(1), put(0, row), text())[1:], [[len(row)], shows(row)])

    def test_a_character_above_is_wrong_and_changes_nothing(self):
        for above in (ABOVE, ABOVE + 1, 4294967295):
            for row in ([above], [above, 65, 66], [65, above, 66], [65, 66, above]):
                answered = ask(new(1), put(0, "ab"), put(1, row), text(), known())
                self.assertEqual(answered[2:], [[-1], shows("ab"), knows(w1=2)])

    def test_more_than_4096_characters_are_wrong(self):
        self.assertEqual(put_in(State(), 0, [65] * 4096), [-4])
        self.assertEqual(put_in(State(), 0, [65] * 4097), [-1])


class Room(unittest.TestCase):
    def test_room_just_so_in_one(self):
        for who in (0, 15):
            many = list(range(4095))
            answered = ask(new(who), put(0, many), text(), known())
            self.assertEqual(answered[1:], [[4095], shows(many), knows(**{f"w{who}": 4095})])

    def test_no_room_in_one(self):
        answered = ask(new(3), put(0, [65] * 4096), length(), text(), known(), put(0, "a"), text())
        self.assertEqual(answered[1:], [[-4], [0], [0], knows(), [1], shows("a")])

    def test_room_just_so_and_no_room_behind_others(self):
        first = list(range(4000))
        calls = [new(3), put(0, first), put(7, [1] * 96), text(), known(), put(7, [2] * 95), text(), known()]
        filled = first[:7] + [2] * 95 + first[7:]
        wanted = [[-4], shows(first), knows(w3=4000), [95], shows(filled), knows(w3=4095)]
        self.assertEqual(ask(*calls)[2:], wanted)

    def test_none_need_no_room(self):
        calls = [new(3), put(0, [65] * 4095), put(0, ""), put(4095, ""), put(0, "a"), known()]
        self.assertEqual(ask(*calls)[2:], [[0], [0], [-4], knows(w3=4095)])

    def test_takes_use_up_the_numbers_too(self):
        calls = [new(3), put(0, [65] * 4000), take(0, 94), put(0, "ab"), length(), put(0, "a"), length(), known()]
        self.assertEqual(ask(*calls)[3:], [[-4], [3906], [1], [3907], knows(w3=4095)])

    def test_wrong_comes_ahead_of_no_room(self):
        calls = [new(3), put(0, [65] * 4095)]
        for wrong in (put(-1, "a"), put(4096, "a"), put(0, [ABOVE]), put(4095, [65, ABOVE])):
            answered = ask(*calls, wrong, put(0, "a"), known())
            self.assertEqual(answered[2:], [[-1], [-4], knows(w3=4095)])
        self.assertEqual(last(new(3), put(1, [65] * 4096)), [-1])
        self.assertEqual(last(new(3), put(0, [65] * 4095 + [ABOVE])), [-1])


if __name__ == "__main__":
    unittest.main()
