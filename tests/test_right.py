import itertools
import random
import unittest

from helpers import MOST, NEVER_PERMUTATIONS, NO_COUNTS_OF_LETTERS, STILL
from helpers import number_told, right, rounds, some_permutation
from wheelwriters.bench import answers


class Right(unittest.TestCase):
    def test_one_call_written_out(self):
        calls = [0, 16, 16, 1, 2, 0, 4, 3, 5, 6, 7, 8, 9, 10, 11, 12, 13, 14, 15]
        self.assertEqual(answers(calls), [3, 1, 0, 0])

    def test_no_permutation_written_out(self):
        calls = [0, 16, 16, 1, 2, 1, 4, 3, 5, 6, 7, 8, 9, 10, 11, 12, 13, 14, 15]
        self.assertEqual(answers(calls), [3, 0, 0, 0])

    def test_several_calls_written_out(self):
        calls = [0, 2, 16, 1, 0, 2, 3, 4, 5, 6, 7, 8, 9, 10, 11, 12, 13, 14, 15]
        calls += [0, 2, 0]
        calls += [0, 3, 16, 2, 0, 1, 3, 4, 5, 6, 7, 8, 9, 10, 11, 12, 13, 14, 15]
        calls += [0, 2, 16, 2, 0, 1, 3, 4, 5, 6, 7, 8, 9, 10, 11, 12, 13, 14, 15]
        self.assertEqual(answers(calls), [3, 1, 0, 0, 3, 0, 0, 0, 3, 1, 0, 0, 3, 0, 0, 0])

    def test_what_moves_nothing_is_right_for_2_to_16_letters(self):
        for n in range(2, 17):
            with self.subTest(n=n):
                self.assertEqual(answers(right(n, STILL)), number_told(1))

    def test_other_counts_of_letters(self):
        for n in NO_COUNTS_OF_LETTERS:
            with self.subTest(n=n):
                self.assertEqual(answers(right(n, STILL)), number_told(0))

    def test_other_counts_of_letters_with_as_long_a_list(self):
        for n in (0, 1, 17, 18):
            with self.subTest(n=n):
                self.assertEqual(answers(right(n, list(range(n)))), number_told(0))

    def test_never_permutations(self):
        for n in list(range(18)) + [MOST]:
            for name, a in NEVER_PERMUTATIONS.items():
                with self.subTest(n=n, name=name):
                    self.assertEqual(answers(right(n, a)), number_told(0))

    def test_a_list_of_n_numbers_is_too_short(self):
        for n in range(2, 16):
            with self.subTest(n=n):
                self.assertEqual(answers(right(n, list(range(n)))), number_told(0))

    def test_letters_from_n_on_stay(self):
        for n in range(2, 15):
            with self.subTest(n=n):
                self.assertEqual(answers(right(n, rounds([n, n + 1]))), number_told(0))
                self.assertEqual(answers(right(n, rounds([14, 15]))), number_told(0))
                self.assertEqual(answers(right(n, rounds([0, 1]))), number_told(1))

    def test_letters_below_n_go_below_n(self):
        for n in range(2, 16):
            with self.subTest(n=n):
                self.assertEqual(answers(right(n, rounds([n - 1, n]))), number_told(0))
                self.assertEqual(answers(right(n + 1, rounds([n - 1, n]))), number_told(1))

    def test_the_place_n_is_one_of_the_others(self):
        a = [0, 1, 2, 2] + list(range(4, 16))
        self.assertEqual(answers(right(3, a)), number_told(0))
        a = [0, 1, 2, MOST] + list(range(4, 16))
        self.assertEqual(answers(right(3, a)), number_told(0))

    def test_all_rows_of_three_numbers(self):
        for first in itertools.product(range(5), repeat=3):
            expected = 1 if set(first) == {0, 1, 2} else 0
            a = list(first) + list(range(3, 16))
            with self.subTest(a=a):
                self.assertEqual(answers(right(3, a)), number_told(expected))

    def test_one_number_changed(self):
        rng = random.Random(1)
        for n in range(2, 17):
            a = some_permutation(rng, n)
            self.assertEqual(answers(right(n, a)), number_told(1))
            for place in range(16):
                b = list(a)
                b[place] = (b[place] + 1 + rng.randrange(15)) % 16
                with self.subTest(n=n, b=b):
                    self.assertEqual(answers(right(n, b)), number_told(0))


if __name__ == "__main__":
    unittest.main()
