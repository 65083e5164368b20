import random
import unittest

from helpers import MOST, PlainMachine, bytes_told, joined, keys, machine, number_told, numbers_told, plain_keys
from helpers import put, read, some_machine, split, steps, text, wheel, write
from wheelwriters.bench import answers

# Its wheel exchanges letters 1 and 2 of 3 where it stands at 0, 0 and 1 at 1, 0 and 2 at 2.
THREE = [3, 1, 0, 0, 1, 2, 0, 1, 2, 1, 0, 0, 0, 0, 0, 2, 1]
# 8 letters, 2 wheels whose wires move nothing: each letter becomes itself from all 64 stands.
EIGHT = machine(8, [wheel(8), wheel(8, 2, 3, 1, 1)])
# 6561 stands, so what isn't -1 is -2.
NINE = machine(9, [wheel(9), wheel(9), wheel(9), wheel(9)], 1)


def stands_in_order(n, how_many):
    """All stands, wheel 0's changing first."""
    return [[number // n ** w % n for w in range(how_many)] for number in range(n ** how_many)]


def known_of(s, rng, how_many):
    """What is known of a text from how the machine's wheels stand."""
    l = []
    for turn in range(how_many):
        plain = PlainMachine(s)
        after = rng.randrange(1, 20)
        for step in range(after):
            plain.step()
        letter = rng.randrange(plain.n)
        l += [after, letter, plain.becomes(letter)]
    return l


class Keys(unittest.TestCase):
    def test_one_call_written_out(self):
        calls = [8, 17] + THREE + [16, 0, 3, 1, 0, 1]
        self.assertEqual(answers(calls), [3, 0, 0, 0, 4, 1, 0, 1, 0])

    def test_several_calls_written_out(self):
        calls = [8, 17] + THREE
        calls += [16, 0, 3, 1, 1, 1]
        calls += [16, 0, 6, 2, 0, 0, 1, 1, 1]
        calls += [16, 0, 6, 1, 0, 1, 1, 0, 2]
        calls += [16, 0, 0]
        calls += [16, 2, 0]
        calls += [16, 0, 2, 1, 0]
        calls += [16, 0, 3, 1, 0, 3]
        calls += [10]
        expected = [3, 0, 0, 0]
        expected += [4, 1, 0, 1, 1]
        expected += [4, 1, 0, 1, 1]
        expected += [3, 0, 0, 0]
        expected += [6, 3, 0, 3, 0, 1, 2]
        expected += [4, 3, 0, 1, 2]
        expected += [3, -1, 0, 0]
        expected += [3, -1, 0, 0]
        expected += [4, 1, 0, 1, 0]
        self.assertEqual(answers(calls), expected)

    def test_in_the_order_of_their_numbers_written_out(self):
        calls = [8, 21, 2, 2, 0, 0, 1, 0, 1, 1, 0, 0, 0, 0, 0, 1, 0, 0, 0, 0, 0, 0, 1, 16, 0, 3, 1, 1, 1]
        self.assertEqual(answers(calls), [3, 0, 0, 0, 11, 4, 0, 8, 0, 0, 1, 0, 0, 1, 1, 1])

    def test_nothing_known_allows_all_stands(self):
        for n, how_many in ((2, 1), (2, 4), (3, 2), (7, 2), (5, 2), (3, 3)):
            rows = stands_in_order(n, how_many)
            s = machine(n, [wheel(n) for w in range(how_many)])
            told = answers(read(s) + keys(0, []))[4:]
            with self.subTest(n=n, how_many=how_many):
                self.assertEqual(told, numbers_told(n ** how_many, joined(rows[:50])))

    def test_from_which_number_on(self):
        rows = stands_in_order(8, 2)
        for start in (0, 1, 13, 14, 15, 49, 50, 51, 63, 64, 65, 100, MOST - 1, MOST):
            for l in ([], [1, 3, 3], [64, 7, 7, 1, 0, 0]):
                told = answers(read(EIGHT) + keys(start, l))[4:]
                with self.subTest(start=start, l=l):
                    self.assertEqual(told, numbers_told(64, joined(rows[start:start + 50])))

    def test_from_where_there_are_none(self):
        for start in (0, 1, 50, MOST):
            self.assertEqual(answers(read(EIGHT) + keys(start, [1, 3, 4]))[4:], number_told(0))

    def test_the_stands_do_not_matter_and_stay(self):
        s = machine(3, [wheel(3, 1, 1, 0, 1, [1, 0, 2]), wheel(3, 3, 0, 0, 4, [2, 1, 0])], 1, [0, 2, 1], [1, 0, 2])
        first = answers(read(s) + keys(0, [1, 0, 1, 3, 2, 2]))[4:]
        for stands in stands_in_order(3, 2):
            told = answers(read(s) + put(stands) + keys(0, [1, 0, 1, 3, 2, 2]) + write())[8:]
            expected = list(s)
            expected[11], expected[19] = stands
            self.assertEqual(told, first + bytes_told(25, expected))

    def test_no_wheels(self):
        # By the first board 0 goes to 1, 1 to 0.
        s = machine(3, [], 0, [1, 0, 2])
        told = answers(read(s) + keys(0, []) + keys(0, [5, 0, 1]) + keys(1, [5, 0, 1]) + keys(0, [5, 0, 0]))[4:]
        self.assertEqual(told, number_told(1) * 3 + number_told(0))

    def test_a_last_board_that_sends_back_and_one_that_does_not(self):
        for sends_back, coded in ((0, 2), (1, 1)):
            # 0 goes on to 1, then to 2; sent back it's 1, for that goes on to 2.
            s = machine(4, [], sends_back, [1, 2, 3, 0], [1, 2, 3, 0])
            for other in range(4):
                told = answers(read(s) + keys(0, [1, 0, other]))[4:]
                with self.subTest(sends_back=sends_back, other=other):
                    self.assertEqual(told, number_told(1 if other == coded else 0))

    def test_several_known_of_one_time(self):
        s = machine(3, [wheel(3, 1, 0, 0, 0, [0, 2, 1])])
        self.assertEqual(answers(read(s) + keys(0, [4, 0, 1, 4, 1, 0, 4, 2, 2]))[4:], numbers_told(1, [0]))
        self.assertEqual(answers(read(s) + keys(0, [4, 0, 1, 4, 1, 0, 4, 2, 1]))[4:], number_told(0))
        self.assertEqual(answers(read(s) + keys(0, [4, 0, 1] * 12))[4:], numbers_told(1, [0]))

    def test_known_in_any_order(self):
        rng = random.Random(29)
        s = some_machine(rng, 4, 3, 1)
        l = known_of(s, rng, 3)
        expected = answers(read(s) + keys(0, l))
        for order in ((0, 2, 1), (1, 0, 2), (1, 2, 0), (2, 0, 1), (2, 1, 0)):
            again = joined([l[3 * i:3 * i + 3] for i in order])
            self.assertEqual(answers(read(s) + keys(0, again)), expected)


class ManyStands(unittest.TestCase):
    def test_4096_stands(self):
        for n, how_many in ((16, 3), (8, 4)):
            rows = stands_in_order(n, how_many)
            s = machine(n, [wheel(n) for w in range(how_many)], 1)
            for start in (0, 50, 1000, 4045, 4046, 4047, 4095, 4096, 4097, MOST):
                told = answers(read(s) + keys(start, [2, 1, 1]))[4:]
                with self.subTest(n=n, start=start):
                    self.assertEqual(told, numbers_told(4096, joined(rows[start:start + 50])))

    def test_the_stand_a_text_was_written_from_is_among_4096(self):
        rng = random.Random(30)
        for n, how_many in ((16, 3), (8, 4)):
            for sends_back in (0, 1):
                s = some_machine(rng, n, how_many, sends_back)
                start = 3 + 2 * n
                stands = [s[start + w * (5 + n) + 2] for w in range(how_many)]
                written = split(answers(read(s) + text(0, [65 + i for i in range(8)])))[1][2:-1]
                l = joined([[i + 1, i, byte - 65] for i, byte in enumerate(written)])
                told = split(answers(read(s) + keys(0, l)))[1]
                self.assertLessEqual(told[0], 50)
                self.assertEqual(len(told), 3 + told[0] * how_many)
                rows = [told[place:place + how_many] for place in range(3, len(told), how_many)]
                self.assertIn(stands, rows)
                for one in rows:
                    plain = PlainMachine(s)
                    plain.stands = list(one)
                    self.assertTrue(plain.is_so(l))

    def test_more_than_4096_stands(self):
        for n in range(9, 17):
            s = machine(n, [wheel(n, 0) for w in range(4)], 1)
            with self.subTest(n=n):
                self.assertEqual(answers(read(s) + keys(0, []) + keys(MOST, [1, 0, 0]))[4:], number_told(-2) * 2)

    def test_what_is_not_as_said_is_told_first(self):
        for l in ([1], [1, 0], [1, 0, 0, 1], [0, 0, 0], [65, 0, 0], [1, 9, 0], [1, 0, 9], [1, 0, 0] * 13):
            with self.subTest(l=l):
                self.assertEqual(answers(read(NINE) + keys(0, l) + keys(0, [1, 8, 8]))[4:],
                                 number_told(-1) + number_told(-2))


class WhatIsNotKnown(unittest.TestCase):
    def test_lists_that_are_not_three_numbers_each(self):
        for length in (1, 2, 4, 5, 7, 34, 35, 37, 38, 14999):
            with self.subTest(length=length):
                self.assertEqual(answers(read(EIGHT) + keys(0, [1] * length))[4:], number_told(-1))

    def test_12_and_13(self):
        self.assertEqual(answers(read(EIGHT) + keys(64, [1, 2, 2] * 12))[4:], number_told(64))
        self.assertEqual(answers(read(EIGHT) + keys(64, [1, 2, 2] * 13))[4:], number_told(-1))
        self.assertEqual(answers(read(EIGHT) + keys(64, [1, 2, 2] * 5000))[4:], number_told(-1))

    def test_how_many_steps(self):
        for after, number in ((0, -1), (1, 64), (2, 64), (63, 64), (64, 64), (65, -1), (255, -1), (MOST, -1)):
            for before in ([], [3, 1, 1], [3, 1, 1] * 11):
                with self.subTest(after=after, before=before):
                    self.assertEqual(answers(read(EIGHT) + keys(64, before + [after, 1, 1]))[4:], number_told(number))

    def test_letters(self):
        for n in (2, 3, 8, 16):
            s = machine(n, [wheel(n)])
            for letter, number in ((0, n), (n - 1, n), (n, -1), (n + 1, -1), (255, -1), (MOST, -1)):
                with self.subTest(n=n, letter=letter):
                    self.assertEqual(answers(read(s) + keys(n, [1, letter, letter]))[4:], number_told(number))
            for l in ([1, n, 0], [1, 0, n], [1, 0, 0, 1, n, 0], [1, 0, 0, 1, 0, n], [1, n, 0, 1, 0, 0]):
                with self.subTest(n=n, l=l):
                    self.assertEqual(answers(read(s) + keys(n, l))[4:], number_told(-1))

    def test_64_steps(self):
        # After 64 steps wheel 0 of 3 letters has gone on by one letter.
        s = machine(3, [wheel(3, 1, 0, 0, 0, [0, 2, 1])])
        self.assertEqual(answers(read(s) + keys(0, [64, 0, 1]))[4:], numbers_told(1, [0]))
        self.assertEqual(answers(read(s) + keys(0, [64, 0, 1, 63, 1, 2]))[4:], numbers_told(1, [0]))

    def test_a_refusal_changes_nothing(self):
        told = answers(read(NINE) + steps(3) + keys(0, [1]) + keys(0, []) + write())
        self.assertEqual(told[16:], answers(read(NINE) + steps(3) + write())[8:])


class AllStandsTried(unittest.TestCase):
    def hold_against_plain_search(self, s, l):
        rows = plain_keys(s, l)
        for start in (0, 1, 50):
            told = answers(read(s) + keys(start, l))[4:]
            with self.subTest(s=s, l=l, start=start):
                self.assertEqual(told, numbers_told(len(rows), joined(rows[start:start + 50])))

    def test_what_a_text_tells(self):
        rng = random.Random(31)
        for n, how_many in ((2, 0), (2, 1), (2, 2), (2, 3), (2, 4), (3, 1), (3, 2), (3, 3), (4, 2), (4, 3), (5, 0),
                            (8, 1), (8, 2), (16, 1)):
            for sends_back in (0, 1):
                for known in (0, 1, 2, 4):
                    s = some_machine(rng, n, how_many, sends_back)
                    self.hold_against_plain_search(s, known_of(s, rng, known))

    def test_what_no_text_may_tell(self):
        rng = random.Random(32)
        for turn in range(60):
            n = rng.choice((2, 3, 4))
            s = some_machine(rng, n, rng.randrange(4), rng.randrange(2))
            l = joined([[rng.randrange(1, 10), rng.randrange(n), rng.randrange(n)] for i in range(rng.randrange(3))])
            self.hold_against_plain_search(s, l)


if __name__ == "__main__":
    unittest.main()
