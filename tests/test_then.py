import random
import unittest

from helpers import NEVER_PERMUTATIONS, STILL, list_told, number_told, some_permutation, then
from wheelwriters.bench import answers

A = [1, 2, 0, 4, 3, 5, 6, 7, 8, 9, 10, 11, 12, 13, 14, 15]
B = [15, 3, 2, 1, 4, 5, 6, 7, 8, 9, 10, 11, 12, 13, 14, 0]
FIRST_A_THEN_B = [3, 2, 15, 4, 1, 5, 6, 7, 8, 9, 10, 11, 12, 13, 14, 0]
FIRST_B_THEN_A = [15, 4, 0, 2, 3, 5, 6, 7, 8, 9, 10, 11, 12, 13, 14, 1]


class Then(unittest.TestCase):
    def test_one_call_written_out(self):
        calls = [1]
        calls += [16, 1, 2, 0, 4, 3, 5, 6, 7, 8, 9, 10, 11, 12, 13, 14, 15]
        calls += [16, 15, 3, 2, 1, 4, 5, 6, 7, 8, 9, 10, 11, 12, 13, 14, 0]
        expected = [19, 0, 0, 16, 3, 2, 15, 4, 1, 5, 6, 7, 8, 9, 10, 11, 12, 13, 14, 0]
        self.assertEqual(answers(calls), expected)

    def test_several_calls_written_out(self):
        calls = then(A, B) + then([], []) + then(B, A)
        expected = [19, 0, 0, 16] + FIRST_A_THEN_B + [3, -1, 0, 0] + [19, 0, 0, 16] + FIRST_B_THEN_A
        self.assertEqual(answers(calls), expected)

    def test_what_moves_nothing(self):
        self.assertEqual(answers(then(STILL, STILL)), list_told(STILL))
        self.assertEqual(answers(then(A, STILL)), list_told(A))
        self.assertEqual(answers(then(STILL, A)), list_told(A))

    def test_the_same_list_on_both_sides(self):
        expected = [2, 0, 1] + list(range(3, 16))
        self.assertEqual(answers(then(A, A)), list_told(expected))

    def test_letter_by_letter(self):
        rng = random.Random(2)
        for turn in range(100):
            a = some_permutation(rng, 16)
            b = some_permutation(rng, 16)
            expected = []
            for letter in range(16):
                expected.append(b[a[letter]])
            self.assertEqual(answers(then(a, b)), list_told(expected))

    def test_one_is_no_permutation(self):
        for name, wrong in NEVER_PERMUTATIONS.items():
            with self.subTest(name=name):
                self.assertEqual(answers(then(wrong, A)), number_told(-1))
                self.assertEqual(answers(then(A, wrong)), number_told(-1))
                self.assertEqual(answers(then(wrong, wrong)), number_told(-1))


if __name__ == "__main__":
    unittest.main()
