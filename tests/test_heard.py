"""Promises 1 to 5 on a copy that has heard changes of others."""

import unittest

from helper import ask, hear, known, knows, last, length, new, news, put, puts, shows, so_much, take, takes, text

HIGHEST = 2147483647

# the text: wxyz; the q that another took out stands between x and y
HEARD = [puts(1, 1, 10, None, "w"), puts(1, 2, 11, (1, 1), "x"), puts(4, 1, 12, (1, 2), "q"), puts(4, 2, 13, (4, 1), "y"),
         puts(15, 1, 14, (4, 2), "z"), takes(15, 2, 15, (4, 1))]


class New(unittest.TestCase):
    def test_new_forgets_what_was_heard(self):
        calls = [new(2), hear(*HEARD), new(2), length(), text(), known(), news(HIGHEST, so_much())]
        self.assertEqual(ask(*calls)[2:], [[0], [0], [0], knows(), [0]])

    def test_stamps_begin_with_1_again(self):
        calls = [new(2), hear(*HEARD), new(3), put(0, "a"), news(HIGHEST, so_much())]
        self.assertEqual(last(*calls), [16] + puts(3, 1, 1, None, "a"))

    def test_what_was_heard_can_be_heard_again(self):
        self.assertEqual(ask(new(2), hear(*HEARD), new(4), hear(*HEARD), text())[3:], [[6], shows("wxyz")])
        self.assertEqual(last(new(2), hear(*HEARD), new(4), hear(HEARD[1])), [-2])

    def test_a_refused_new_leaves_what_was_heard(self):
        for who in (-1, 16):
            answered = ask(new(2), hear(*HEARD), new(who), text(), known(), put(4, "a"), known())
            self.assertEqual(answered[2:], [[-1], shows("wxyz"), knows(w1=2, w4=2, w15=2), [1],
                                            knows(w1=2, w2=1, w4=2, w15=2)])


class LengthAndText(unittest.TestCase):
    def test_of_what_was_heard(self):
        steps = ["w", "wx", "wxq", "wxqy", "wxqyz", "wxyz"]
        for n, wanted in enumerate(steps):
            self.assertEqual(ask(new(2), hear(*HEARD[:n + 1]), length(), text())[2:], [[len(wanted)], shows(wanted)])

    def test_of_own_and_heard_ones(self):
        calls = [new(2), put(0, "ab"), hear(*HEARD), put(1, "c"), length(), text()]
        self.assertEqual(ask(*calls)[-2:], [[7], shows("wcxyzab")])

    def test_all_taken_out_by_others(self):
        calls = [new(2), put(0, "ab"), hear(takes(1, 1, 3, (2, 1)), takes(1, 2, 4, (2, 2))), length(), text()]
        self.assertEqual(ask(*calls)[-2:], [[0], [0]])


class Put(unittest.TestCase):
    def test_at_every_place(self):
        for at, wanted in enumerate(("abwxyz", "wabxyz", "wxabyz", "wxyabz", "wxyzab")):
            behind = (None, (1, 1), (1, 2), (4, 2), (15, 1))[at]
            calls = [new(2), hear(*HEARD), put(at, "ab"), text(), known(), news(99, so_much(w1=2, w4=2, w15=2))]
            message = puts(2, 1, 16, behind, "a") + puts(2, 2, 17, (2, 1), "b")
            self.assertEqual(ask(*calls)[2:], [[2], shows(wanted), knows(w1=2, w2=2, w4=2, w15=2), [32] + message])

    def test_wrong_places(self):
        for at in (-1, 5, 6, HIGHEST):
            answered = ask(new(2), hear(*HEARD), put(at, "ab"), text(), known())
            self.assertEqual(answered[2:], [[-1], shows("wxyz"), knows(w1=2, w4=2, w15=2)])

    def test_behind_a_mark_that_others_are_behind(self):
        heard = [puts(1, 1, 1, None, "a"), puts(3, 1, 9, (1, 1), "b"), puts(4, 1, 9, (1, 1), "c"), puts(5, 1, 9, None, "d")]
        self.assertEqual(ask(new(0), hear(*heard), put(2, "x"), text())[2:], [[1], shows("daxcb")])
        self.assertEqual(ask(new(0), hear(*heard), put(0, "x"), text())[2:], [[1], shows("xdacb")])

    def test_the_other_copies_show_it_so_too(self):
        calls = [new(2), put(0, "mno"), hear(*HEARD), put(3, "ab"), take(2, 3), put(0, "c")]
        message = last(*calls, news(HIGHEST, so_much()))[1:]
        for who in (0, 2, 4, 15):
            self.assertEqual(last(new(who), hear(message), text()), last(*calls, text()))
        self.assertEqual(last(new(1), hear(*HEARD), hear(message), text()), last(*calls, text()))

    def test_room_for_4096_marks(self):
        heard = hear(*[puts(1, n, n, None, 66) for n in range(1, 101)])
        calls = [new(2), heard, put(7, [65] * 3997), length(), put(7, [65] * 3996), length(), put(0, "a"), put(0, ""), known()]
        self.assertEqual(ask(*calls)[2:], [[-4], [100], [3996], [4096], [-4], [0], knows(w1=100, w2=3996)])

    def test_room_for_marks_that_others_took_out(self):
        heard = [puts(1, 1, 1, None, 66)] + [takes(3, n, n + 1, (1, 1)) for n in range(1, 11)]
        calls = [new(2), hear(*heard), put(0, [65] * 4095), put(0, "a"), length(), known()]
        self.assertEqual(ask(*calls)[2:], [[4095], [-4], [4095], knows(w1=1, w2=4095, w3=10)])

    def test_room_for_stamps(self):
        calls = [new(2), hear(puts(1, 1, 65532, None, 66)), put(0, "abcd"), put(0, "abc"), text(), put(0, "d"), take(0, 1)]
        self.assertEqual(ask(*calls)[2:], [[-4], [3], shows("abcB"), [-4], [-4]])
        self.assertEqual(last(*calls, put(0, "")), [0])
        self.assertEqual(last(*calls, take(0, 0)), [0])
        self.assertEqual(last(*calls, put(9, "d")), [-1])
        self.assertEqual(last(*calls, take(0, 9)), [-1])

    def test_room_for_own_numbers_that_were_heard(self):
        own = [puts(2, n, n, None, 66) for n in range(1, 101)]
        calls = [new(2), hear(*own), put(0, [65] * 3996), put(0, [65] * 3995), put(0, "a"), known()]
        self.assertEqual(ask(*calls)[2:], [[-4], [3995], [-4], knows(w2=4095)])


class Take(unittest.TestCase):
    def test_every_stretch(self):
        marks = [(1, 1), (1, 2), (4, 2), (15, 1)]
        for at in range(5):
            for n in range(5 - at):
                calls = [new(2), hear(*HEARD), take(at, n), text(), news(999, so_much(w1=2, w4=2, w15=2))]
                message = [b for k in range(n) for b in takes(2, k + 1, 16 + k, marks[at + k])]
                self.assertEqual(ask(*calls)[2:], [[n], shows("wxyz"[:at] + "wxyz"[at + n:]), [16 * n] + message])

    def test_wrong_places(self):
        for at, n in ((-1, 1), (0, 5), (4, 1), (5, 0), (0, -1), (1, 4)):
            answered = ask(new(2), hear(*HEARD), take(at, n), text(), known())
            self.assertEqual(answered[2:], [[-1], shows("wxyz"), knows(w1=2, w4=2, w15=2)])

    def test_no_room_for_stamps(self):
        calls = [new(2), put(0, "abc"), hear(puts(1, 1, 65533, None, "d")), take(1, 3), text(), known(), take(1, 2), text()]
        self.assertEqual(ask(*calls)[3:], [[-4], shows("dabc"), knows(w1=1, w2=3), [2], shows("dc")])

    def test_no_room_for_own_numbers(self):
        heard = [puts(1, n, n, None, 66) for n in range(1, 101)]
        calls = [new(2), hear(*heard), put(0, [65] * 3990), take(5, 106), take(5, 105), length(), known()]
        self.assertEqual(ask(*calls)[3:], [[-4], [105], [3985], knows(w1=100, w2=4095)])


class Known(unittest.TestCase):
    def test_of_everybody(self):
        heard = [puts(who, n, n, None, 65) for who in range(16) for n in range(1, who + 2)]
        answered = ask(new(2), hear(*heard), known(), put(0, "ab"), take(5, 1), known())
        self.assertEqual(answered[2], [136] + list(range(1, 17)))
        self.assertEqual(answered[5], [139, 1, 2, 6, 4] + list(range(5, 17)))

    def test_takes_count_too(self):
        self.assertEqual(last(new(2), hear(*HEARD), known()), knows(w1=2, w4=2, w15=2))
        self.assertEqual(last(new(2), hear(*HEARD[:5]), known()), knows(w1=2, w4=2, w15=1))

    def test_what_is_heard_twice_counts_once(self):
        self.assertEqual(last(new(2), hear(*HEARD), hear(*HEARD), known()), knows(w1=2, w4=2, w15=2))


if __name__ == "__main__":
    unittest.main()
