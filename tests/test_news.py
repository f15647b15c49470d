"""Promise 6: news."""

import unittest

from helper import ask, hear, known, knows, last, new, news, put, puts, shows, so_much, take, takes, tells, text

LOWEST = -2147483648
HIGHEST = 2147483647
NOTHING = so_much()


class TheBytes(unittest.TestCase):
    def test_each_byte_of_a_put_at_the_beginning(self):
        wanted = [16, 9, 0, 1, 0, 1, 0, 255, 0, 0, 0, 0, 0, 97, 0, 0, 0]
        self.assertEqual(last(new(9), put(0, "a"), news(16, NOTHING)), wanted)

    def test_each_byte_of_a_put_behind_a_mark(self):
        wanted = [16, 15, 0, 2, 0, 2, 0, 15, 0, 1, 0, 0, 0, 0xFF, 0xFF, 0x10, 0]
        self.assertEqual(last(new(15), put(0, [5, 0x10FFFF]), news(16, so_much(w15=1))), wanted)

    def test_each_byte_of_a_take(self):
        wanted = [16, 3, 1, 2, 0, 2, 0, 3, 0, 1, 0, 0, 0, 0, 0, 0, 0]
        self.assertEqual(last(new(3), put(0, "a"), take(0, 1), news(16, so_much(w3=1))), wanted)

    def test_numbers_have_their_lowest_byte_first(self):
        calls = [new(0), hear(puts(7, 1, 0x1234, None, 5)), put(0, [6] * 0x203), put(0x203, [0x012345])]
        wanted = [16, 0, 0, 4, 2, 0x38, 0x14, 0, 0, 3, 2, 0, 0, 0x45, 0x23, 1, 0]
        self.assertEqual(last(*calls, news(HIGHEST, so_much(w7=1, w0=0x203))), wanted)

    def test_the_greatest_numbers(self):
        calls = [new(15), put(0, [0x10FFFF] * 4095), news(32, so_much(w15=4093))]
        wanted = tells(puts(15, 4094, 4094, (15, 4093), 0x10FFFF), puts(15, 4095, 4095, (15, 4094), 0x10FFFF))
        self.assertEqual(last(*calls), wanted)
        calls = [new(15), hear(puts(0, 1, 65535, None, 0)), news(16, NOTHING)]
        self.assertEqual(last(*calls), tells(puts(0, 1, 65535, None, 0)))

    def test_the_mark_of_the_own_put_is_that_of_the_character_before(self):
        calls = [new(1), put(0, "abc"), take(1, 1), put(1, "x"), put(0, "y"), news(999, so_much(w1=3))]
        wanted = tells(takes(1, 4, 4, (1, 2)), puts(1, 5, 5, (1, 1), "x"), puts(1, 6, 6, None, "y"))
        self.assertEqual(last(*calls), wanted)


class Most(unittest.TestCase):
    changes = [puts(4, n, n, (4, n - 1) if n > 1 else None, 96 + n) for n in range(1, 6)]

    def test_as_many_whole_ones_as_stand_in_most_bytes(self):
        for most, count in ((0, 0), (1, 0), (15, 0), (16, 1), (17, 1), (31, 1), (32, 2), (47, 2), (48, 3), (79, 4),
                            (80, 5), (81, 5), (95, 5), (96, 5), (1000, 5), (HIGHEST, 5)):
            answered = last(new(4), put(0, "abcde"), news(most, NOTHING))
            self.assertEqual(answered, tells(*self.changes[:count]), most)

    def test_below_0_is_wrong(self):
        for most in (-1, -15, -16, LOWEST):
            for numbers in (NOTHING, so_much(w4=5), [HIGHEST] * 16, [-1] * 16):
                self.assertEqual(last(new(4), put(0, "abcde"), news(most, numbers)), [-1])


class SoMuch(unittest.TestCase):
    def test_what_the_other_knows_is_left_out(self):
        for n in range(6):
            answered = last(new(4), put(0, "abcde"), news(80, so_much(w4=n)))
            self.assertEqual(answered, tells(*Most.changes[n:]))

    def test_above_what_is_known_there_is_nothing_to_tell(self):
        for n in (5, 6, 4095, 4096, HIGHEST):
            self.assertEqual(last(new(4), put(0, "abcde"), news(80, so_much(w4=n))), [0])
        numbers = [HIGHEST] * 16
        numbers[4] = 3
        self.assertEqual(last(new(4), put(0, "abcde"), news(80, numbers)), tells(*Most.changes[3:]))

    def test_any_of_the_sixteen_below_0_is_wrong(self):
        for who in range(16):
            for below in (-1, LOWEST):
                for most in (0, 15, 80):
                    numbers = so_much(w4=2)
                    numbers[who] = below
                    self.assertEqual(last(new(4), put(0, "abcde"), news(most, numbers)), [-1])

    def test_nothing_known(self):
        self.assertEqual(last(new(4), news(1000, NOTHING)), [0])
        self.assertEqual(last(new(4), news(1000, [7] * 16)), [0])
        self.assertEqual(last(new(4), put(0, "abc"), new(4), news(1000, NOTHING)), [0])

    def test_the_sixteen_are_told_apart(self):
        heard = [puts(who, n, 20 * n + who, None, 65 + who) for n in (1, 2) for who in range(16)]
        for who in range(16):
            numbers = [2] * 16
            numbers[who] = 1
            self.assertEqual(last(new(3), hear(*heard), news(1000, numbers)), tells(heard[16 + who]))


class Order(unittest.TestCase):
    def test_the_lower_stamp_first(self):
        first = [puts(2, 1, 5, None, "a"), puts(2, 2, 9, (2, 1), "b")]
        second = [puts(1, 1, 7, None, "c"), puts(1, 2, 8, None, "d"), puts(1, 3, 30, None, "e")]
        third = [puts(14, 1, 1, None, "f"), takes(14, 2, 20, (2, 2))]
        wanted = tells(third[0], first[0], second[0], second[1], first[1], third[1], second[2])
        self.assertEqual(last(new(0), hear(*first, *second, *third), news(1000, NOTHING)), wanted)
        self.assertEqual(last(new(0), hear(*third[:1], *second, *first), hear(third[1]), news(1000, NOTHING)), wanted)

    def test_with_one_stamp_the_lower_who_first(self):
        heard = [puts(who, 1, 7, None, 65 + who) for who in (5, 0, 15, 3, 10)]
        wanted = tells(*[puts(who, 1, 7, None, 65 + who) for who in (0, 3, 5, 10, 15)])
        self.assertEqual(last(new(9), hear(*heard), news(1000, NOTHING)), wanted)

    def test_the_stamp_counts_ahead_of_the_who(self):
        heard = [puts(15, 1, 1, None, "a"), puts(0, 1, 2, None, "b"), puts(15, 2, 2, None, "c"), puts(1, 1, 2, None, "d")]
        wanted = tells(heard[0], heard[1], heard[3], heard[2])
        self.assertEqual(last(new(9), hear(*heard), news(1000, NOTHING)), wanted)

    def test_most_keeps_those_of_the_lowest_stamps(self):
        heard = [puts(who, n, 4 * n - who, None, 65 + who) for who in range(3) for n in range(1, 4)]
        ordered = sorted(heard, key=lambda row: (row[4], row[0]))
        for count in range(10):
            self.assertEqual(last(new(9), hear(*heard), news(16 * count + 3, NOTHING)), tells(*ordered[:count]))

    def test_own_changes_come_behind_what_was_known_before(self):
        heard = [puts(1, 1, 3, None, "a"), puts(3, 1, 9, (1, 1), "b")]
        calls = [new(2), hear(*heard), put(2, "c"), take(0, 1), news(1000, NOTHING)]
        wanted = tells(*heard, puts(2, 1, 10, (3, 1), "c"), takes(2, 2, 11, (1, 1)))
        self.assertEqual(last(*calls), wanted)


class Asking(unittest.TestCase):
    def test_asking_changes_nothing(self):
        calls = [new(2), put(0, "ab"), news(16, NOTHING), news(1000, NOTHING), news(-1, NOTHING), known(), text()]
        self.assertEqual(ask(*calls)[5:], [knows(w2=2), shows("ab")])

    def test_a_new_copy_that_hears_all_news_is_alike(self):
        calls = [new(2), put(0, "hello"), take(1, 2), put(2, "xyz"), put(0, "q"), take(0, 1)]
        message = last(*calls, news(HIGHEST, NOTHING))[1:]
        answered = ask(new(8), hear(message), text(), known(), news(HIGHEST, NOTHING))
        wanted = [[12], last(*calls, text()), knows(w2=12), tells(message)]
        self.assertEqual(answered[1:], wanted)

    def test_news_in_pieces_come_to_the_whole(self):
        heard = [puts(who, n, 4 * n - who, None, 65 + who) for who in range(3) for n in range(1, 4)]
        source = [new(9), hear(*heard), put(4, "own"), take(2, 3)]
        calls = [new(5)]
        for step in range(30):
            numbers = last(*calls, known())[1:]
            message = last(*source, news(40, numbers))[1:]
            calls.append(hear(message))
        self.assertEqual(ask(*calls, known(), text())[-2:], ask(*source, known(), text())[-2:])

    def test_the_longest_news(self):
        calls = [new(6), put(0, [65] * 4095), news(HIGHEST, NOTHING)]
        wanted = tells(*[puts(6, n, n, (6, n - 1) if n > 1 else None, 65) for n in range(1, 4096)])
        self.assertTrue(last(*calls) == wanted)


if __name__ == "__main__":
    unittest.main()
