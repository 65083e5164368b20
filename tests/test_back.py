import random
import unittest

from helpers import NEVER_PERMUTATIONS, STILL, back, list_told, number_told, some_permutation, then
from wheelwriters.bench import answers


class Back(unittest.TestCase):
    def test_one_call_written_out(self):
        calls = [2, 16, 1, 2, 0, 4, 5, 6, 3, 7, 8, 9, 10, 11, 12, 15, 13, 14]
        expected = [19, 0, 0, 16, 2, 0, 1, 6, 3, 4, 5, 7, 8, 9, 10, 11, 12, 14, 15, 13]
        self.assertEqual(answers(calls), expected)

    def test_several_calls_written_out(self):
        calls = [2, 1, 0]
        calls += [2, 16, 15, 0, 1, 2, 3, 4, 5, 6, 7, 8, 9, 10, 11, 12, 13, 14]
        calls += [2, 0]
        calls += [2, 16, 1, 2, 3, 4, 5, 6, 7, 8, 9, 10, 11, 12, 13, 14, 15, 0]
        expected = [3, -1, 0, 0]
        expected += [19, 0, 0, 16, 1, 2, 3, 4, 5, 6, 7, 8, 9, 10, 11, 12, 13, 14, 15, 0]
        expected += [3, -1, 0, 0]
        expected += [19, 0, 0, 16, 15, 0, 1, 2, 3, 4, 5, 6, 7, 8, 9, 10, 11, 12, 13, 14]
        self.assertEqual(answers(calls), expected)

    def test_what_moves_nothing(self):
        self.assertEqual(answers(back(STILL)), list_told(STILL))

    def test_pairs_undo_themselves(self):
        a = [15 - i for i in range(16)]
        self.assertEqual(answers(back(a)), list_told(a))

    def test_nothing_has_moved_after_both(self):
        rng = random.Random(3)
        for turn in range(100):
            a = some_permutation(rng, 16)
            b = answers(back(a))[4:]
            self.assertEqual(answers(then(a, b)), list_told(STILL))
            self.assertEqual(answers(then(b, a)), list_told(STILL))
            self.assertEqual(answers(back(b)), list_told(a))

    def test_no_permutation(self):
        for name, wrong in NEVER_PERMUTATIONS.items():
            with self.subTest(name=name):
                self.assertEqual(answers(back(wrong)), number_told(-1))


if __name__ == "__main__":
    unittest.main()
