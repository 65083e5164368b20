import random
import unittest

from helpers import NEVER_PERMUTATIONS, STILL, back, list_told, number_told, seen, some_permutation, then, turned
from wheelwriters.bench import answers

A = [1, 2, 0, 4, 3, 5, 6, 7, 8, 9, 10, 11, 12, 13, 14, 15]
ROUND = [1, 2, 3, 4, 5, 6, 7, 8, 9, 10, 11, 12, 13, 14, 15, 0]


class Seen(unittest.TestCase):
    def test_one_call_written_out(self):
        calls = [4]
        calls += [16, 1, 2, 0, 4, 3, 5, 6, 7, 8, 9, 10, 11, 12, 13, 14, 15]
        calls += [16, 15, 3, 2, 1, 4, 5, 6, 7, 8, 9, 10, 11, 12, 13, 14, 0]
        expected = [19, 0, 0, 16, 0, 4, 15, 2, 1, 5, 6, 7, 8, 9, 10, 11, 12, 13, 14, 3]
        self.assertEqual(answers(calls), expected)

    def test_several_calls_written_out(self):
        calls = seen(A, ROUND) + seen(A, []) + seen(ROUND, A)
        expected = [19, 0, 0, 16, 1, 15, 3, 2, 4, 5, 6, 7, 8, 9, 10, 11, 12, 13, 14, 0]
        expected += [3, -1, 0, 0]
        expected += [19, 0, 0, 16, 1, 4, 0, 5, 3, 6, 7, 8, 9, 10, 11, 12, 13, 14, 15, 2]
        self.assertEqual(answers(calls), expected)

    def test_what_moves_nothing(self):
        self.assertEqual(answers(seen(STILL, STILL)), list_told(STILL))
        self.assertEqual(answers(seen(A, STILL)), list_told(A))
        self.assertEqual(answers(seen(STILL, ROUND)), list_told(STILL))

    def test_through_itself(self):
        self.assertEqual(answers(seen(A, A)), list_told(A))

    def test_through_a_round_of_all_letters_is_turned_by_1(self):
        rng = random.Random(6)
        a = some_permutation(rng, 16)
        self.assertEqual(answers(seen(a, ROUND)), answers(turned(16, 1, a)))

    def test_letter_by_letter(self):
        rng = random.Random(7)
        for turn in range(100):
            a = some_permutation(rng, 16)
            b = some_permutation(rng, 16)
            expected = []
            for letter in range(16):
                expected.append(b.index(a[b[letter]]))
            self.assertEqual(answers(seen(a, b)), list_told(expected))

    def test_is_first_b_then_a_then_what_undoes_b(self):
        rng = random.Random(8)
        a = some_permutation(rng, 16)
        b = some_permutation(rng, 16)
        first_two = answers(then(b, a))[4:]
        undoing = answers(back(b))[4:]
        self.assertEqual(answers(seen(a, b)), answers(then(first_two, undoing)))

    def test_one_is_no_permutation(self):
        for name, wrong in NEVER_PERMUTATIONS.items():
            with self.subTest(name=name):
                self.assertEqual(answers(seen(wrong, A)), number_told(-1))
                self.assertEqual(answers(seen(A, wrong)), number_told(-1))
                self.assertEqual(answers(seen(wrong, wrong)), number_told(-1))


if __name__ == "__main__":
    unittest.main()
