import random
import unittest

from helpers import NEVER_PERMUTATIONS, STILL, number_told, order, rounds, rounds_of, some_permutation, then
from wheelwriters.bench import answers


def times_till_still(a):
    """Does a over and over, as the document says it."""
    done = a
    times = 1
    while done != STILL:
        done = answers(then(done, a))[4:]
        times += 1
    return times


class Order(unittest.TestCase):
    def test_one_call_written_out(self):
        calls = [5, 16, 1, 2, 0, 4, 3, 5, 6, 7, 8, 9, 10, 11, 12, 13, 14, 15]
        self.assertEqual(answers(calls), [3, 6, 0, 0])

    def test_several_calls_written_out(self):
        calls = order(rounds([0, 1])) + order([]) + order(rounds([4, 9, 11]))
        self.assertEqual(answers(calls), [3, 2, 0, 0, 3, -1, 0, 0, 3, 3, 0, 0])

    def test_what_moves_nothing(self):
        self.assertEqual(answers(order(STILL)), number_told(1))

    def test_one_round(self):
        for length in range(1, 17):
            with self.subTest(length=length):
                self.assertEqual(answers(order(rounds_of(length))), number_told(length))

    def test_rounds_of_different_lengths(self):
        cases = (
            ((2, 3), 6),
            ((2, 4), 4),
            ((4, 2), 4),
            ((4, 6), 12),
            ((6, 4), 12),
            ((6, 10), 30),
            ((6, 9), 18),
            ((8, 8), 8),
            ((2, 2, 2, 2, 2, 2, 2, 2), 2),
            ((5, 5, 6), 30),
            ((2, 3, 5, 6), 30),
            ((3, 4, 9), 36),
            ((1, 3, 5, 7), 105),
            ((3, 4, 7, 2), 84),
            ((4, 5, 7), 140),
            ((7, 9), 63),
        )
        for lengths, expected in cases:
            with self.subTest(lengths=lengths):
                self.assertEqual(answers(order(rounds_of(*lengths))), number_told(expected))

    def test_the_last_letters_count(self):
        self.assertEqual(answers(order(rounds([14, 15]))), number_told(2))
        self.assertEqual(answers(order(rounds([0, 15, 7]))), number_told(3))

    def test_done_so_often_nothing_has_moved(self):
        rng = random.Random(9)
        for turn in range(30):
            a = some_permutation(rng, 16)
            with self.subTest(a=a):
                self.assertEqual(answers(order(a)), number_told(times_till_still(a)))

    def test_no_permutation(self):
        for name, wrong in NEVER_PERMUTATIONS.items():
            with self.subTest(name=name):
                self.assertEqual(answers(order(wrong)), number_told(-1))


if __name__ == "__main__":
    unittest.main()
