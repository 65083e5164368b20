import itertools
import random
import unittest

from helpers import MOST, PlainMachine, boards, bytes_told, joined, machine, number_told, numbers_told, perm
from helpers import plain_boards, put, read, some_machine, split, steps, wheel, write
from wheelwriters.bench import answers

# Whatever board it has, with no wheels and such a last board each letter becomes itself.
STILL_16 = machine(16, [], 1)
# What no board stands before: 0 and 1 become each other.
SWAP_3 = machine(3, [], 1, [2, 0, 1], [1, 0, 2])
FORWARD_6 = machine(6, [wheel(6)], 0)
BACK_6 = machine(6, [wheel(6)], 1)


def still_rows(n, told_of):
    """All rows of boards of n letters where these letters are told of, in order, found by where each of them goes."""
    rows = []
    for others in itertools.product(range(n), repeat=len(told_of)):
        one = [255] * n
        for letter, other in zip(told_of, others):
            one[letter] = other
        for letter, other in zip(told_of, others):
            if one[other] == 255:
                one[other] = letter
        if all(other == 255 or one[other] == i for i, other in enumerate(one)):
            rows.append(one)
    return sorted(rows)


def known_of(s, rng, told_of, how_many):
    """What is known of a text with some board that exchanges letters, of these letters alone as far as that goes."""
    n = s[0]
    order = rng.sample(range(n), n)
    board = list(range(n))
    for i in range(0, n - 1, 2):
        if rng.randrange(2):
            board[order[i]], board[order[i + 1]] = order[i + 1], order[i]
    l = []
    for turn in range(how_many):
        plain = PlainMachine(s)
        plain.first = board
        after = rng.randrange(1, 20)
        for step in range(after):
            plain.step()
        letter = rng.choice(told_of)
        coded = plain.becomes(letter)
        if len(set(l[1::3] + l[2::3] + [letter, coded])) <= 4:
            l += [after, letter, coded]
    return l


class Boards(unittest.TestCase):
    def test_one_call_written_out(self):
        calls = [8, 9, 3, 0, 1, 2, 0, 1, 1, 0, 2, 17, 0, 3, 1, 0, 1]
        self.assertEqual(answers(calls), [3, 0, 0, 0, 9, 2, 0, 6, 0, 1, 255, 1, 0, 255])

    def test_several_calls_written_out(self):
        calls = [8, 9, 3, 0, 1, 2, 0, 1, 1, 0, 2]
        calls += [17, 0, 3, 1, 2, 2]
        calls += [17, 0, 3, 64, 0, 0]
        calls += [17, 0, 6, 1, 0, 0, 1, 0, 1]
        calls += [17, 0, 0]
        calls += [17, 1, 0]
        calls += [17, 1, 3, 1, 0, 1]
        calls += [17, 0, 1, 1]
        calls += [8, 9, 3, 0, 0, 2, 0, 1, 1, 0, 2]
        calls += [17, 0, 3, 1, 0, 1]
        expected = [3, 0, 0, 0]
        expected += [6, 1, 0, 3, 255, 255, 2]
        expected += [6, 1, 0, 3, 2, 255, 0]
        expected += [3, 0, 0, 0]
        expected += [6, 1, 0, 3, 255, 255, 255]
        expected += [3, 1, 0, 0]
        expected += [6, 2, 0, 3, 1, 0, 255]
        expected += [3, -1, 0, 0]
        expected += [3, 0, 0, 0]
        expected += [3, -5, 0, 0]
        self.assertEqual(answers(calls), expected)

    def test_in_order_written_out(self):
        calls = [8, 9, 3, 0, 1, 0, 1, 2, 0, 1, 2, 17, 0, 3, 1, 2, 2, 17, 1, 3, 1, 1, 1, 17, 2, 3, 1, 0, 0]
        expected = [3, 0, 0, 0]
        expected += [12, 3, 0, 9, 2, 255, 0, 255, 2, 1, 255, 255, 2]
        expected += [9, 3, 0, 6, 255, 1, 255, 255, 2, 1]
        expected += [6, 3, 0, 3, 2, 255, 0]
        self.assertEqual(answers(calls), expected)

    def test_nothing_known(self):
        for n in range(2, 17):
            with self.subTest(n=n):
                told = answers(read(machine(n, [], 1)) + boards(0, []) + boards(1, []) + boards(MOST, []))[4:]
                self.assertEqual(told, numbers_told(1, [255] * n) + number_told(1) * 2)

    def test_the_first_board_that_is_there_does_not_matter_and_stays(self):
        for first in itertools.permutations(range(3)):
            s = machine(3, [], 1, first, [1, 0, 2])
            told = answers(read(s) + boards(0, [1, 0, 1]) + write())[4:]
            self.assertEqual(told, numbers_told(2, [0, 1, 255, 1, 0, 255]) + bytes_told(9, s))

    def test_from_how_the_wheels_stand(self):
        # Behind the board one letter becomes itself, another at each stand: letter 0 does if it's exchanged for that.
        s = machine(3, [wheel(3, 1, 0, 0, 0, [0, 2, 1])], 1, [2, 1, 0], [0, 2, 1])
        for stand in range(3):
            plain = PlainMachine(s)
            plain.first = [0, 1, 2]
            plain.stands = [(stand + 1) % 3]
            same = [letter for letter in range(3) if plain.becomes(letter) == letter]
            one = [255] * 3
            one[0], one[same[0]] = same[0], 0
            told = answers(read(s) + put([stand]) + boards(0, [1, 0, 0]) + write())[8:]
            expected = list(s)
            expected[11] = stand
            with self.subTest(stand=stand):
                self.assertEqual(len(same), 1)
                self.assertEqual(told, numbers_told(1, one) + bytes_told(17, expected))
            told = answers(read(s) + put([stand]) + steps(2) + boards(0, [2, 0, 0]))[12:]
            self.assertEqual(told, answers(read(s) + put([stand]) + boards(0, [4, 0, 0]))[8:])

    def test_several_known_of_one_time(self):
        self.assertEqual(answers(read(SWAP_3) + boards(0, [1, 0, 1, 1, 1, 0, 1, 2, 2]))[4:],
                         numbers_told(2, [0, 1, 2, 1, 0, 2]))
        self.assertEqual(answers(read(SWAP_3) + boards(0, [1, 0, 1, 1, 1, 2]))[4:], number_told(0))
        self.assertEqual(answers(read(SWAP_3) + boards(0, [7, 0, 1] * 12))[4:],
                         numbers_told(2, [0, 1, 255, 1, 0, 255]))

    def test_a_last_board_that_is_not_by_pairs(self):
        # Behind the board 0 becomes 1, 1 becomes 2, 2 becomes 0.
        s = machine(4, [], 1, None, [1, 2, 0, 3])
        told = answers(read(s) + boards(0, [1, 0, 1]) + boards(0, [1, 1, 0]))[4:]
        expected = numbers_told(1, [0, 1, 255, 255])
        expected += numbers_told(3, [0, 2, 1, 255, 1, 0, 255, 255, 2, 1, 0, 255])
        self.assertEqual(told, expected)

    def test_more_than_4096_stands_are_of_no_account(self):
        s = machine(16, [wheel(16, 1, 0, 0, 1 << w) for w in range(4)], 1)
        told = answers(read(s) + boards(0, [1, 3, 3]))[4:]
        rows = still_rows(16, [3])
        self.assertEqual(len(rows), 16)
        self.assertEqual(told, numbers_told(16, joined(rows)))


class ManyBoards(unittest.TestCase):
    def test_how_many_of_16_letters(self):
        # Of 4 letters told of, 12 others: none of the 4 exchanged with another of them, 1 pair of them, 2 pairs.
        of_4 = (1 + 4 * 12 + 6 * 12 * 11 + 4 * 12 * 11 * 10 + 12 * 11 * 10 * 9) + 6 * (1 + 2 * 12 + 12 * 11) + 3
        of_3 = (1 + 3 * 13 + 3 * 13 * 12 + 13 * 12 * 11) + 3 * (1 + 13)
        of_2 = (1 + 2 * 14 + 14 * 13) + 1
        for told_of, how_many in (([3], 16), ([3, 15], of_2), ([0, 7, 8], of_3), ([2, 5, 9, 14], of_4)):
            l = joined([[i + 1, letter, letter] for i, letter in enumerate(told_of)])
            with self.subTest(told_of=told_of):
                self.assertEqual(split(answers(read(STILL_16) + boards(MOST, l)))[1], [how_many, 0, 0])

    def test_from_which_number_on(self):
        rows = still_rows(16, [3, 15])
        how_many = len(rows)
        for start in (0, 1, 49, 50, 51, 100, how_many - 50, how_many - 49, how_many - 1, how_many, how_many + 1,
                      MOST - 1, MOST):
            told = answers(read(STILL_16) + boards(start, [1, 3, 3, 9, 15, 15]))[4:]
            with self.subTest(start=start):
                self.assertEqual(told, numbers_told(how_many, joined(rows[start:start + 50])))

    def test_all_of_them_in_pages(self):
        rows = still_rows(16, [1, 6, 12])
        l = [1, 1, 1, 1, 6, 6, 2, 12, 12]
        calls = []
        for start in range(0, len(rows), 50):
            calls += boards(start, l)
        found = []
        for told in split(answers(read(STILL_16) + calls))[1:]:
            self.assertEqual(told[0], len(rows))
            found += [told[place:place + 16] for place in range(3, len(told), 16)]
        self.assertEqual(found, rows)


class RefusedBoards(unittest.TestCase):
    def test_what_is_not_as_said(self):
        for l in ([1], [1, 0], [1, 0, 0, 1], [1] * 35, [1] * 37, [0, 0, 0], [65, 0, 0], [MOST, 0, 0], [1, 6, 0],
                  [1, 0, 6], [1, MOST, 0], [1, 0, MOST], [1, 0, 0, 0, 0, 0], [1, 0, 0, 1, 0, 6], [1, 0, 0] * 13,
                  [1, 0, 0] * 5000):
            with self.subTest(length=len(l), l=l[:6]):
                self.assertEqual(answers(read(BACK_6) + boards(0, l))[4:], number_told(-1))

    def test_steps_and_letters_at_their_edges(self):
        for l in ([1, 0, 0], [64, 0, 0], [1, 5, 5], [1, 0, 0] * 12):
            with self.subTest(l=l):
                told = answers(read(BACK_6) + boards(0, l))[4:]
                self.assertEqual(told, numbers_told(6, joined(still_rows(6, [l[1]]))))

    def test_4_and_5_letters_told_of(self):
        four = [1, 0, 1, 1, 2, 3]
        self.assertEqual(answers(read(BACK_6) + boards(0, four))[4:], number_told(0))
        for l in ([1, 0, 0, 1, 1, 1, 1, 2, 2, 1, 3, 3], [1, 0, 1, 2, 1, 2, 3, 2, 3], [9, 5, 2, 9, 4, 3] * 6):
            with self.subTest(l=l):
                self.assertGreaterEqual(split(answers(read(BACK_6) + boards(0, l)))[1][0], 0)
        for l in (four + [1, 4, 4], four + [1, 4, 0], four + [1, 0, 4], four + [1, 4, 5],
                  [1, 0, 0, 1, 1, 1, 1, 2, 2, 1, 3, 3, 1, 5, 5], [1, 0, 1, 2, 1, 2, 3, 2, 3, 4, 3, 4]):
            with self.subTest(l=l):
                self.assertEqual(answers(read(BACK_6) + boards(0, l) + boards(MOST, l))[4:], number_told(-2) * 2)

    def test_4_letters_in_12(self):
        l = [1, 0, 0, 2, 1, 1, 3, 2, 2, 4, 3, 3] * 3
        rows = still_rows(6, [0, 1, 2, 3])
        self.assertEqual(answers(read(BACK_6) + boards(0, l))[4:], numbers_told(len(rows), joined(rows[:50])))

    def test_a_last_board_that_does_not_send_back(self):
        for l in ([], [1, 0, 0], [1, 0, 1, 1, 2, 3]):
            with self.subTest(l=l):
                self.assertEqual(answers(read(FORWARD_6) + boards(0, l))[4:], number_told(-5))

    def test_which_refusal_is_told(self):
        five = [1, 0, 1, 1, 2, 3, 1, 4, 5]
        self.assertEqual(answers(read(FORWARD_6) + boards(0, five + [1]))[4:], number_told(-1))
        self.assertEqual(answers(read(FORWARD_6) + boards(0, five + [0, 0, 0]))[4:], number_told(-1))
        self.assertEqual(answers(read(FORWARD_6) + boards(0, [1, 6, 0]))[4:], number_told(-1))
        self.assertEqual(answers(read(FORWARD_6) + boards(0, five))[4:], number_told(-5))
        self.assertEqual(answers(read(BACK_6) + boards(0, five + [1]))[4:], number_told(-1))
        self.assertEqual(answers(read(BACK_6) + boards(0, five * 5))[4:], number_told(-1))
        self.assertEqual(answers(read(BACK_6) + boards(0, five))[4:], number_told(-2))

    def test_a_refusal_changes_nothing(self):
        refused = boards(0, [1]) + boards(0, [1, 0, 1, 1, 2, 3, 1, 4, 5])
        told = answers(read(BACK_6) + steps(4) + refused + write())
        self.assertEqual(told[16:], answers(read(BACK_6) + steps(4) + write())[8:])


class AllBoardsTried(unittest.TestCase):
    def hold_against_plain_search(self, s, l):
        rows = plain_boards(s, l)
        for start in (0, 1, 50):
            told = answers(read(s) + boards(start, l))[4:]
            with self.subTest(s=s, l=l, start=start):
                self.assertEqual(told, numbers_told(len(rows), joined(rows[start:start + 50])))

    def test_what_a_text_tells(self):
        rng = random.Random(33)
        for n in range(2, 8):
            for how_many in range(5):
                for known in (0, 1, 2, 3, 8):
                    s = some_machine(rng, n, how_many, 1)
                    self.hold_against_plain_search(s, known_of(s, rng, rng.sample(range(n), min(n, 3)), known))

    def test_what_no_text_may_tell(self):
        rng = random.Random(34)
        for turn in range(60):
            n = rng.randrange(2, 7)
            s = some_machine(rng, n, rng.randrange(4), 1)
            told_of = rng.sample(range(n), min(n, 4))
            l = joined([[rng.randrange(1, 6), rng.choice(told_of), rng.choice(told_of)]
                        for i in range(rng.randrange(4))])
            self.hold_against_plain_search(s, l)

    def test_each_board_does_it(self):
        # What a row leaves open is free, so with those letters exchanged for themselves all of it is so.
        rng = random.Random(35)
        for turn in range(20):
            s = some_machine(rng, 16, rng.randrange(5), 1)
            l = known_of(s, rng, rng.sample(range(16), 2), 5)
            told = split(answers(read(s) + boards(0, l)))[1]
            self.assertGreaterEqual(told[0], 1)
            for place in range(3, len(told), 16):
                board = [i if other == 255 else other for i, other in enumerate(told[place:place + 16])]
                plain = PlainMachine(s)
                plain.first = board
                self.assertTrue(plain.is_so(l))
                with_it = s[:3] + board + s[19:]
                for i in range(0, len(l), 3):
                    self.assertEqual(split(answers(read(with_it) + perm(l[i])))[1][3 + l[i + 1]], l[i + 2])


if __name__ == "__main__":
    unittest.main()
