"""Promise 8: then."""

import unittest

from helper import ask, hear, known, knows, last, new, put, puts, shows, so_much, take, takes, text, then

LOWEST = -2147483648
HIGHEST = 2147483647
NOTHING = so_much()


class OfOne(unittest.TestCase):
    calls = [new(3), put(0, "abc"), take(1, 1), put(1, "xy"), take(0, 2), put(0, "z")]

    def test_the_text_after_each_change(self):
        steps = ["", "a", "ab", "abc", "ac", "axc", "axyc", "xyc", "yc", "zyc"]
        for n, wanted in enumerate(steps):
            self.assertEqual(last(*self.calls, then(so_much(w3=n))), shows(wanted), n)

    def test_above_what_is_known_is_wrong(self):
        for n in (10, 11, 4095, 4096, HIGHEST):
            self.assertEqual(last(*self.calls, then(so_much(w3=n))), [-1])
        for who in range(16):
            numbers = so_much(w3=2)
            numbers[who] = 10 if who == 3 else 1
            self.assertEqual(last(*self.calls, then(numbers)), [-1])

    def test_below_0_is_wrong(self):
        for who in range(16):
            for below in (-1, LOWEST):
                numbers = so_much(w3=2)
                numbers[who] = below
                self.assertEqual(last(*self.calls, then(numbers)), [-1])

    def test_nothing_known(self):
        self.assertEqual(last(new(3), then(NOTHING)), [0])
        self.assertEqual(last(new(3), then(so_much(w3=1))), [-1])
        self.assertEqual(last(*self.calls, new(3), then(NOTHING)), [0])
        self.assertEqual(last(*self.calls, new(3), then(so_much(w3=1))), [-1])

    def test_asking_changes_nothing(self):
        asked = [then(NOTHING), then(so_much(w3=4)), then(so_much(w3=10)), then(so_much(w3=9))]
        answered = ask(*self.calls, *asked, text(), known())
        self.assertEqual(answered[-3:], [shows("zyc"), shows("zyc"), knows(w3=9)])


class OfSeveral(unittest.TestCase):
    heard = [puts(1, 1, 1, None, "a"), puts(1, 2, 2, (1, 1), "b"), puts(2, 1, 3, (1, 1), "c"), takes(2, 2, 4, (1, 2)),
             puts(9, 1, 5, (2, 1), "d"), takes(9, 2, 6, (2, 1)), puts(9, 3, 7, None, "e")]
    calls = [new(4), hear(*heard)]

    def check(self, wanted, **of_who):
        self.assertEqual(last(*self.calls, then(so_much(**of_who))), wanted, of_who)

    def test_nothing_and_all(self):
        self.check([0])
        self.check(shows("ead"), w1=2, w2=2, w9=3)
        self.assertEqual(last(*self.calls, text()), shows("ead"))

    def test_parts(self):
        self.check(shows("a"), w1=1)
        self.check(shows("ab"), w1=2)
        self.check(shows("ac"), w1=1, w2=1)
        self.check(shows("acb"), w1=2, w2=1)
        self.check(shows("ac"), w1=2, w2=2)
        self.check(shows("acd"), w1=2, w2=2, w9=1)
        self.check(shows("acdb"), w1=2, w2=1, w9=1)
        self.check(shows("adb"), w1=2, w2=1, w9=2)
        self.check(shows("eadb"), w1=2, w2=1, w9=3)

    def test_a_part_that_lacks_the_mark_that_a_put_is_behind(self):
        self.check([-2], w2=1)
        self.check([-2], w1=2, w9=1)
        self.check([-2], w9=1)
        self.check([-2], w9=3)

    def test_a_part_that_lacks_the_mark_that_is_taken_out(self):
        self.check([-2], w1=1, w2=2)
        self.check([-2], w2=2)
        heard = [puts(0, 1, 1, None, "a"), takes(1, 1, 2, (0, 1))]
        self.assertEqual(last(new(4), hear(*heard), then(so_much(w1=1))), [-2])
        self.assertEqual(last(new(4), hear(*heard), then(so_much(w0=1))), shows("a"))

    def test_a_mark_of_a_greater_number_than_the_part_has(self):
        heard = [puts(0, 1, 1, None, "a"), puts(0, 2, 2, None, "b"), puts(1, 1, 3, (0, 2), "c"), puts(1, 2, 4, None, "d")]
        for n, wanted in ((0, [-2]), (1, [-2]), (2, shows("dbca"))):
            self.assertEqual(last(new(4), hear(*heard), then(so_much(w0=n, w1=2))), wanted)

    def test_wrong_comes_ahead_of_lacking(self):
        self.check([-1], w2=1, w15=1)
        self.check([-1], w2=1, w0=1)
        self.check([-1], w2=1, w1=-1)
        self.check([-1], w1=-1, w2=2, w9=3)
        self.check([-1], w2=3)

    def test_what_others_took_out_is_there_without_them(self):
        heard = [puts(0, 1, 1, None, "a"), takes(1, 1, 2, (0, 1)), takes(2, 1, 2, (0, 1))]
        for one, two in ((0, 0), (0, 1), (1, 0), (1, 1)):
            wanted = [0] if one + two else shows("a")
            self.assertEqual(last(new(4), hear(*heard), then(so_much(w0=1, w1=one, w2=two))), wanted)

    def test_a_mark_behind_one_that_is_taken_out(self):
        heard = [puts(0, 1, 1, None, "a"), takes(1, 1, 2, (0, 1)), puts(2, 1, 2, (0, 1), "b")]
        self.assertEqual(last(new(4), hear(*heard), then(so_much(w0=1, w1=1, w2=1))), shows("b"))
        self.assertEqual(last(new(4), hear(*heard), then(so_much(w0=1, w2=1))), shows("ab"))

    def test_who_0_and_who_15(self):
        heard = [puts(0, 1, 1, None, "a"), puts(15, 1, 2, (0, 1), "b"), puts(0, 2, 3, (15, 1), "c")]
        calls = [new(4), hear(*heard)]
        self.assertEqual(last(*calls, then(so_much(w0=1, w15=1))), shows("ab"))
        self.assertEqual(last(*calls, then(so_much(w0=2, w15=1))), shows("abc"))
        self.assertEqual(last(*calls, then(so_much(w0=2))), [-2])
        self.assertEqual(last(*calls, then(so_much(w15=1))), [-2])


class Deep(unittest.TestCase):
    def test_4096_marks_behind_one_another(self):
        calls = [new(6), put(0, list(range(4095))), hear(puts(7, 1, 4096, (6, 4095), 9)), take(0, 0)]
        self.assertTrue(last(*calls, then(so_much(w6=4095, w7=1))) == shows(list(range(4095)) + [9]))
        self.assertTrue(last(*calls, then(so_much(w6=4095))) == shows(range(4095)))
        self.assertEqual(last(*calls, then(so_much(w6=4094, w7=1))), [-2])
        self.assertEqual(last(*calls, then(so_much(w6=2))), shows(range(2)))


if __name__ == "__main__":
    unittest.main()
