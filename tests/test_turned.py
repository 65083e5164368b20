import random
import unittest

from helpers import MOST, NEVER_PERMUTATIONS, NO_COUNTS_OF_LETTERS, STILL
from helpers import list_told, number_told, rounds, some_permutation, turned
from wheelwriters.bench import answers

A = [1, 2, 0, 4, 3, 5, 6, 7, 8, 9, 10, 11, 12, 13, 14, 15]


class Turned(unittest.TestCase):
    def test_one_call_written_out(self):
        calls = [3, 5, 2, 16, 1, 2, 0, 4, 3, 5, 6, 7, 8, 9, 10, 11, 12, 13, 14, 15]
        expected = [19, 0, 0, 16, 3, 2, 1, 4, 0, 5, 6, 7, 8, 9, 10, 11, 12, 13, 14, 15]
        self.assertEqual(answers(calls), expected)

    def test_several_calls_written_out(self):
        calls = [3, 16, 1, 16, 1, 2, 0, 4, 3, 5, 6, 7, 8, 9, 10, 11, 12, 13, 14, 15]
        calls += [3, 3, 1, 16, 1, 2, 0, 4, 3, 5, 6, 7, 8, 9, 10, 11, 12, 13, 14, 15]
        calls += [3, 2, 7, 16, 1, 0, 2, 3, 4, 5, 6, 7, 8, 9, 10, 11, 12, 13, 14, 15]
        expected = [19, 0, 0, 16, 1, 15, 3, 2, 4, 5, 6, 7, 8, 9, 10, 11, 12, 13, 14, 0]
        expected += [3, -1, 0, 0]
        expected += [19, 0, 0, 16, 1, 0, 2, 3, 4, 5, 6, 7, 8, 9, 10, 11, 12, 13, 14, 15]
        self.assertEqual(answers(calls), expected)

    def test_by_0_by_n_and_by_many_times_n(self):
        for n in range(5, 17):
            for k in (0, n, 2 * n, n * 1000000007, MOST // n * n):
                with self.subTest(n=n, k=k):
                    self.assertEqual(answers(turned(n, k, A)), list_told(A))

    def test_by_the_greatest_number(self):
        # It is 15 modulo 16, 1 modulo 7 and 0 modulo 5.
        by_15 = [15, 2, 3, 1, 5, 4, 6, 7, 8, 9, 10, 11, 12, 13, 14, 0]
        self.assertEqual(answers(turned(16, MOST, rounds([0, 1, 2], [3, 4], [14, 15]))), list_told(by_15))
        self.assertEqual(answers(turned(7, MOST, A)),
                         list_told([1, 6, 3, 2, 4, 5, 0, 7, 8, 9, 10, 11, 12, 13, 14, 15]))
        self.assertEqual(answers(turned(5, MOST, A)), list_told(A))

    def test_2_letters(self):
        swap = rounds([0, 1])
        for k in (0, 1, 2, 3, MOST):
            with self.subTest(k=k):
                self.assertEqual(answers(turned(2, k, swap)), list_told(swap))
                self.assertEqual(answers(turned(2, k, STILL)), list_told(STILL))

    def test_what_moves_nothing(self):
        for n in range(2, 17):
            for k in (0, 1, n - 1, n, n + 1, MOST):
                with self.subTest(n=n, k=k):
                    self.assertEqual(answers(turned(n, k, STILL)), list_told(STILL))

    def test_letter_by_letter(self):
        rng = random.Random(4)
        for n in range(2, 17):
            for k in (1, 2, n - 1, n + 1, 3 * n + 2, rng.randrange(MOST), MOST - 1, MOST):
                a = some_permutation(rng, n)
                expected = list(STILL)
                for letter in range(n):
                    # Letter x goes where a says, as seen from k letters further on.
                    expected[(letter - k) % n] = (a[letter] - k) % n
                with self.subTest(n=n, k=k, a=a):
                    self.assertEqual(answers(turned(n, k, a)), list_told(expected))

    def test_turned_again_is_turned_by_both(self):
        rng = random.Random(5)
        for n in range(2, 17):
            a = some_permutation(rng, n)
            once = answers(turned(n, 3, a))[4:]
            self.assertEqual(answers(turned(n, 4, once)), answers(turned(n, 7, a)))

    def test_other_counts_of_letters(self):
        for n in NO_COUNTS_OF_LETTERS:
            for k in (0, 1, MOST):
                with self.subTest(n=n, k=k):
                    self.assertEqual(answers(turned(n, k, STILL)), number_told(-1))

    def test_letters_from_n_on_do_not_stay(self):
        for n in range(2, 16):
            with self.subTest(n=n):
                self.assertEqual(answers(turned(n, 1, rounds([n - 1, n]))), number_told(-1))
        for n in range(2, 15):
            with self.subTest(n=n):
                self.assertEqual(answers(turned(n, 1, rounds([n, n + 1]))), number_told(-1))

    def test_no_permutation(self):
        for n in (0, 1, 2, 3, 15, 16, 17, MOST):
            for name, wrong in NEVER_PERMUTATIONS.items():
                with self.subTest(n=n, name=name):
                    self.assertEqual(answers(turned(n, 1, wrong)), number_told(-1))


if __name__ == "__main__":
    unittest.main()
