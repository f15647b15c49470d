"""Promise 5: known."""

import unittest

from helper import ask, known, knows, new, put, take


class Known(unittest.TestCase):
    def test_at_the_beginning(self):
        for who in range(16):
            self.assertEqual(ask(new(who), known())[1], [0] * 17)

    def test_after_puts_and_takes(self):
        for who in (0, 1, 11, 15):
            calls = [new(who), put(0, "abc"), known(), take(0, 2), known(), put(1, "de"), known(), take(0, 3), known()]
            wanted = [knows(**{f"w{who}": n}) for n in (3, 5, 7, 10)]
            self.assertEqual(ask(*calls)[2::2], wanted)

    def test_the_order_of_the_sixteen(self):
        self.assertEqual(ask(new(2), put(0, "abcd"), known())[2], [4, 0, 0, 4] + [0] * 13)
        self.assertEqual(ask(new(15), put(0, "abcd"), known())[2], [4] + [0] * 15 + [4])

    def test_refusals_are_no_changes(self):
        refused = [put(3, "a"), put(-1, "a"), put(0, [0x110000]), put(0, [65] * 4096), take(-1, 1), take(0, 3),
                   take(0, -1), new(16), new(-1)]
        for call in refused:
            answered = ask(new(12), put(0, "ab"), call, known())
            self.assertLess(answered[2][0], 0)
            self.assertEqual(answered[3], knows(w12=2))

    def test_puts_and_takes_of_none_are_no_changes(self):
        self.assertEqual(ask(new(12), put(0, "ab"), put(1, ""), take(1, 0), known())[-1], knows(w12=2))

    def test_asking_changes_nothing(self):
        self.assertEqual(ask(new(12), put(0, "ab"), known(), known())[2:], [knows(w12=2)] * 2)


if __name__ == "__main__":
    unittest.main()
