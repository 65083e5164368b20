import itertools
import unittest

from helpers import MOST, PlainMachine, bytes_told, machine, number_told, numbers_told, perm, places, put, read, split
from helpers import steps, wheel, write
from wheelwriters.bench import answers

THREE = machine(3, [wheel(3, 1, 1, 2, 1, [1, 2, 0]), wheel(3, 2, 2, 0, 2, [2, 1, 0])], 1, [1, 0, 2], [2, 1, 0])
SIXTEEN = machine(16, [wheel(16), wheel(16, 2), wheel(16, 3), wheel(16, 0)])


class Put(unittest.TestCase):
    def test_one_call_written_out(self):
        calls = [8, 14, 2, 1, 1, 0, 1, 1, 0, 1, 0, 1, 3, 0, 1, 0, 11, 1, 0, 10]
        self.assertEqual(answers(calls), [3, 0, 0, 0, 3, 0, 0, 0, 4, 1, 0, 1, 0])

    def test_several_calls_written_out(self):
        calls = [8, 14, 2, 1, 1, 0, 1, 1, 0, 1, 0, 1, 3, 0, 1, 0, 11, 1, 2, 11, 0, 11, 2, 0, 0, 10, 11, 1, 0, 10]
        expected = [3, 0, 0, 0, 3, -1, 0, 0, 3, -1, 0, 0, 3, -1, 0, 0, 4, 1, 0, 1, 1, 3, 0, 0, 0, 4, 1, 0, 1, 0]
        self.assertEqual(answers(calls), expected)

    def test_all_stands(self):
        for p in itertools.product(range(3), repeat=2):
            plain = PlainMachine(THREE)
            plain.stands = list(p)
            told = answers(read(THREE) + put(p) + places() + perm(0))
            expected = number_told(0) * 2 + numbers_told(2, p) + numbers_told(0, plain.permutation())
            with self.subTest(p=p):
                self.assertEqual(told, expected)

    def test_the_next_step_is_from_there(self):
        calls = read(THREE) + put([0, 2]) + steps(1) + places() + put([2, 1]) + steps(1) + places()
        told = split(answers(calls))
        self.assertEqual(told[3], [2, 0, 2, 1, 0])
        self.assertEqual(told[6], [2, 0, 2, 0, 1])

    def test_the_last_letter_and_one_above_it(self):
        for place in range(4):
            for letter, number in ((15, 0), (16, -1), (255, -1), (256, -1), (MOST, -1)):
                p = [3, 4, 5, 6]
                p[place] = letter
                told = answers(read(SIXTEEN) + put(p) + places())[4:]
                stands = p if number == 0 else [0, 0, 0, 0]
                with self.subTest(p=p):
                    self.assertEqual(told, number_told(number) + numbers_told(4, stands))

    def test_too_few_and_too_many(self):
        for how_many in (0, 1, 2, 3, 5, 6, 16, 15000):
            with self.subTest(how_many=how_many):
                told = answers(read(SIXTEEN) + put([1] * how_many) + places())[4:]
                self.assertEqual(told, number_told(-1) + numbers_told(4, [0, 0, 0, 0]))

    def test_no_wheels(self):
        told = answers(read(machine(2)) + put([]) + put([0]) + put([0, 0]) + put([MOST]) + places() + write())[4:]
        expected = number_told(0) + number_told(-1) * 3 + numbers_told(0, []) + bytes_told(7, machine(2))
        self.assertEqual(told, expected)

    def test_a_refusal_leaves_all_stands(self):
        told = answers(read(THREE) + put([1, 3]) + places() + put([3, 1]) + places() + put([1]) + places())[4:]
        self.assertEqual(told, (number_told(-1) + numbers_told(2, [2, 0])) * 3)


if __name__ == "__main__":
    unittest.main()
