import itertools
import unittest

from helpers import MOST, NEVER_PERMUTATIONS, NO_COUNTS_OF_LETTERS, STILL
from helpers import number_told, paired, rounds, rounds_of
from wheelwriters.bench import answers


class Paired(unittest.TestCase):
    def test_one_call_written_out(self):
        calls = [7, 4, 16, 2, 3, 0, 1, 4, 5, 6, 7, 8, 9, 10, 11, 12, 13, 14, 15]
        self.assertEqual(answers(calls), [3, 1, 0, 0])

    def test_not_paired_written_out(self):
        calls = [7, 4, 16, 1, 2, 3, 0, 4, 5, 6, 7, 8, 9, 10, 11, 12, 13, 14, 15]
        self.assertEqual(answers(calls), [3, 0, 0, 0])

    def test_several_calls_written_out(self):
        calls = paired(2, rounds([0, 1])) + paired(3, rounds([0, 1])) + paired(17, STILL) + paired(2, rounds([0, 1]))
        self.assertEqual(answers(calls), [3, 1, 0, 0, 3, 0, 0, 0, 3, -1, 0, 0, 3, 1, 0, 0])

    def test_pairs_of_all_letters(self):
        for n in range(2, 17, 2):
            with self.subTest(n=n):
                self.assertEqual(answers(paired(n, rounds_of(*[2] * (n // 2)))), number_told(1))
                self.assertEqual(answers(paired(n, rounds(*[[i, n - 1 - i] for i in range(n // 2)]))), number_told(1))

    def test_what_moves_nothing(self):
        for n in range(2, 17):
            with self.subTest(n=n):
                self.assertEqual(answers(paired(n, STILL)), number_told(0))

    def test_letters_that_stay(self):
        for n in range(3, 17):
            with self.subTest(n=n):
                self.assertEqual(answers(paired(n, rounds_of(*[2] * ((n - 1) // 2)))), number_told(0))

    def test_longer_rounds(self):
        self.assertEqual(answers(paired(16, rounds_of(4, 4, 4, 4))), number_told(0))
        self.assertEqual(answers(paired(16, rounds_of(2, 2, 2, 2, 2, 2, 4))), number_told(0))
        self.assertEqual(answers(paired(16, rounds_of(4, 2, 2, 2, 2, 2, 2))), number_told(0))
        self.assertEqual(answers(paired(3, rounds_of(3))), number_told(0))
        self.assertEqual(answers(paired(5, rounds_of(2, 3))), number_told(0))

    def test_all_permutations_of_up_to_6_letters(self):
        for n in range(2, 7):
            for first in itertools.permutations(range(n)):
                expected = 1 if all(first[i] != i and first[first[i]] == i for i in range(n)) else 0
                a = list(first) + list(range(n, 16))
                self.assertEqual(answers(paired(n, a)), number_told(expected), a)

    def test_other_counts_of_letters(self):
        all_pairs = rounds_of(2, 2, 2, 2, 2, 2, 2, 2)
        for n in NO_COUNTS_OF_LETTERS:
            with self.subTest(n=n):
                self.assertEqual(answers(paired(n, STILL)), number_told(-1))
                self.assertEqual(answers(paired(n, all_pairs)), number_told(-1))

    def test_letters_from_n_on_do_not_stay(self):
        all_pairs = rounds_of(2, 2, 2, 2, 2, 2, 2, 2)
        for n in range(2, 16):
            with self.subTest(n=n):
                self.assertEqual(answers(paired(n, all_pairs)), number_told(-1))

    def test_no_permutation(self):
        for n in (0, 1, 2, 3, 15, 16, 17, MOST):
            for name, wrong in NEVER_PERMUTATIONS.items():
                with self.subTest(n=n, name=name):
                    self.assertEqual(answers(paired(n, wrong)), number_told(-1))


if __name__ == "__main__":
    unittest.main()
