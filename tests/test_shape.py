import random
import unittest

from helpers import MOST, NEVER_PERMUTATIONS, NO_COUNTS_OF_LETTERS, STILL
from helpers import list_told, number_told, rounds, rounds_of, seen, shape, some_permutation
from wheelwriters.bench import answers


def counts(**lengths):
    """counts(of1=3, of2=1): three rounds of one letter, one of two."""
    return [lengths.get(f"of{j + 1}", 0) for j in range(16)]


class Shape(unittest.TestCase):
    def test_one_call_written_out(self):
        calls = [6, 7, 16, 1, 2, 0, 4, 3, 5, 6, 7, 8, 9, 10, 11, 12, 13, 14, 15]
        expected = [19, 0, 0, 16, 2, 1, 1, 0, 0, 0, 0, 0, 0, 0, 0, 0, 0, 0, 0, 0]
        self.assertEqual(answers(calls), expected)

    def test_several_calls_written_out(self):
        calls = shape(16, rounds_of(16)) + shape(1, STILL) + shape(5, rounds_of(3, 2))
        expected = [19, 0, 0, 16, 0, 0, 0, 0, 0, 0, 0, 0, 0, 0, 0, 0, 0, 0, 0, 1]
        expected += [3, -1, 0, 0]
        expected += [19, 0, 0, 16, 0, 1, 1, 0, 0, 0, 0, 0, 0, 0, 0, 0, 0, 0, 0, 0]
        self.assertEqual(answers(calls), expected)

    def test_what_moves_nothing_has_n_rounds_of_1(self):
        for n in range(2, 17):
            with self.subTest(n=n):
                self.assertEqual(answers(shape(n, STILL)), list_told(counts(of1=n)))

    def test_one_round_of_all_letters(self):
        for n in range(2, 17):
            with self.subTest(n=n):
                self.assertEqual(answers(shape(n, rounds_of(n))), list_told(counts(**{f"of{n}": 1})))

    def test_only_letters_below_n_count(self):
        a = rounds([0, 1])
        for n in range(2, 17):
            with self.subTest(n=n):
                self.assertEqual(answers(shape(n, a)), list_told(counts(of1=n - 2, of2=1)))

    def test_rounds_of_different_lengths(self):
        self.assertEqual(answers(shape(16, rounds_of(4, 5, 7))), list_told(counts(of4=1, of5=1, of7=1)))
        self.assertEqual(answers(shape(16, rounds_of(8, 8))), list_told(counts(of8=2)))
        self.assertEqual(answers(shape(16, rounds_of(2, 2, 2, 3, 3))), list_told(counts(of1=4, of2=3, of3=2)))
        self.assertEqual(answers(shape(10, rounds([9, 0], [8, 1, 5]))), list_told(counts(of1=5, of2=1, of3=1)))

    def test_the_rounds_have_all_letters(self):
        rng = random.Random(10)
        for n in range(2, 17):
            for turn in range(10):
                a = some_permutation(rng, n)
                told = answers(shape(n, a))[4:]
                lengths = {}
                for letter in range(n):
                    length, goes_to = 1, a[letter]
                    while goes_to != letter:
                        length, goes_to = length + 1, a[goes_to]
                    lengths[length] = lengths.get(length, 0) + 1
                expected = [lengths.get(j, 0) // j for j in range(1, 17)]
                with self.subTest(n=n, a=a):
                    self.assertEqual(told, expected)

    def test_seen_through_another_the_shape_is_the_same(self):
        rng = random.Random(11)
        a = rounds_of(2, 3, 3, 5)
        b = some_permutation(rng, 16)
        self.assertEqual(answers(shape(16, answers(seen(a, b))[4:])), answers(shape(16, a)))

    def test_other_counts_of_letters(self):
        for n in NO_COUNTS_OF_LETTERS:
            with self.subTest(n=n):
                self.assertEqual(answers(shape(n, STILL)), number_told(-1))

    def test_letters_from_n_on_do_not_stay(self):
        for n in range(2, 16):
            with self.subTest(n=n):
                self.assertEqual(answers(shape(n, rounds([n - 1, n]))), number_told(-1))
        for n in range(2, 15):
            with self.subTest(n=n):
                self.assertEqual(answers(shape(n, rounds([n, n + 1]))), number_told(-1))

    def test_no_permutation(self):
        for n in (0, 1, 2, 3, 15, 16, 17, MOST):
            for name, wrong in NEVER_PERMUTATIONS.items():
                with self.subTest(n=n, name=name):
                    self.assertEqual(answers(shape(n, wrong)), number_told(-1))


if __name__ == "__main__":
    unittest.main()
