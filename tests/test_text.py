"""Promise 2: length and text."""

import unittest

from helper import ask, length, new, put, shows, take, text


class LengthAndText(unittest.TestCase):
    def check(self, wanted, *calls):
        answered = ask(new(6), *calls, length(), text())
        self.assertEqual(answered[-2], [len(wanted)])
        self.assertEqual(answered[-1], shows(wanted))

    def test_nothing_known(self):
        self.check("")

    def test_at_the_beginning(self):
        self.check("b", put(0, "b"))
        self.check("ab", put(0, "b"), put(0, "a"))

    def test_in_the_middle(self):
        self.check("axyb", put(0, "ab"), put(1, "xy"))

    def test_at_the_end(self):
        self.check("abcd", put(0, "ab"), put(2, "cd"))

    def test_in_all_three(self):
        self.check("12ab3cd45", put(0, "abcd"), put(0, "12"), put(4, "3"), put(7, "45"))

    def test_some_taken_out(self):
        self.check("bcd", put(0, "abcd"), take(0, 1))
        self.check("ad", put(0, "abcd"), take(1, 2))
        self.check("abc", put(0, "abcd"), take(3, 1))

    def test_all_taken_out(self):
        self.check("", put(0, "abcd"), take(0, 4))
        self.check("", put(0, "abcd"), take(1, 2), take(0, 2))

    def test_asking_changes_nothing(self):
        calls = [new(0), put(0, "ab"), text(), length(), text(), length()]
        self.assertEqual(ask(*calls)[2:], [shows("ab"), [2], shows("ab"), [2]])

    def test_characters_are_given_back_whole(self):
        self.check("", put(0, []))
        answered = ask(new(0), put(0, [0, 0x10FFFF, 0xFFFF, 0x10000, 256, 255]), text())
        self.assertEqual(answered[-1], [6, 0, 0x10FFFF, 0xFFFF, 0x10000, 256, 255])


if __name__ == "__main__":
    unittest.main()
