import unittest

from helpers import MOST, boards, fault_told, keys, machine, number_told, order, period, perm, places, put, read, right
from helpers import rounds_of, steps, text, wheel, write
from wheelwriters.bench import answers

NINE = {
    "write": write(),
    "places": places(),
    "put": put([0]),
    "put of nothing": put([]),
    "steps": steps(1),
    "perm": perm(0),
    "text": text(0, [65, 66]),
    "text of nothing": text(1, []),
    "period": period(2000),
    "keys": keys(0, [1, 0, 1]),
    "keys of nothing": keys(0, []),
    "boards": boards(0, [1, 0, 1]),
    "boards of nothing": boards(0, []),
}

# Each of these would be refused for something else if there were a machine.
WRONG = {
    "put of no letter": put([MOST]),
    "put of too many": put([0] * 5),
    "put of very many": put([0] * 15000),
    "steps above 10000": steps(10001),
    "most steps": steps(MOST),
    "perm above 10000": perm(10001),
    "most of perm": perm(MOST),
    "text of undo 2": text(2, [65]),
    "text of 1025 bytes": text(0, [65] * 1025),
    "text of both": text(MOST, [65] * 15000),
    "period above 2000": period(2001),
    "most of period": period(MOST),
    "keys of two numbers": keys(MOST, [1, 0]),
    "keys of 13": keys(0, [1, 0, 0] * 13),
    "keys of 0 steps": keys(0, [0, 0, 0]),
    "keys of no letter": keys(0, [1, MOST, 0]),
    "boards of two numbers": boards(MOST, [1, 0]),
    "boards of 13": boards(0, [1, 0, 0] * 13),
    "boards of 5 letters": boards(0, [1, 0, 1, 1, 2, 3, 1, 4, 4]),
    "boards of very many": boards(0, [1, 0, 0] * 5000),
}

ORDER = order(rounds_of(3, 2))


class NoMachine(unittest.TestCase):
    def test_all_nine_written_out(self):
        calls = [9, 10, 11, 1, 0, 12, 1, 13, 0, 14, 0, 2, 65, 66, 15, 2000, 16, 0, 3, 1, 0, 1, 17, 0, 3, 1, 0, 1]
        self.assertEqual(answers(calls), [3, -8, 0, 0] * 9)

    def test_wrong_ones_written_out(self):
        calls = [11, 2, 99, 99, 12, 10001, 13, 10001, 14, 2, 1, 65, 15, 2001, 16, 7, 2, 0, 0, 17, 7, 1, 0]
        self.assertEqual(answers(calls), [3, -8, 0, 0] * 7)

    def test_each_and_the_call_behind_it(self):
        for name, call in list(NINE.items()) + list(WRONG.items()):
            with self.subTest(name=name):
                self.assertEqual(answers(call), number_told(-8))
                self.assertEqual(answers(call + ORDER + call), number_told(-8) + number_told(6) + number_told(-8))

    def test_calls_on_permutations_make_no_machine(self):
        for name, call in NINE.items():
            with self.subTest(name=name):
                self.assertEqual(answers(right(2, []) + ORDER + call), [3, 0, 0, 0, 3, 6, 0, 0, 3, -8, 0, 0])

    def test_after_a_read_that_was_refused(self):
        for name, call in list(NINE.items()) + list(WRONG.items()):
            with self.subTest(name=name):
                calls = read([2, 0, 0]) + call + read([17]) + call + ORDER
                expected = fault_told(3) + number_told(-8) + fault_told(0) + number_told(-8) + number_told(6)
                self.assertEqual(answers(calls), expected)
                calls = read([2] * 257) + call + ORDER
                self.assertEqual(answers(calls), number_told(-2) + number_told(-8) + number_told(6))

    def test_none_of_them_once_there_is_one(self):
        s = machine(2, [wheel(2)], 1)
        for name, call in list(NINE.items()) + list(WRONG.items()):
            with self.subTest(name=name):
                told = answers(call + read(s) + read([0]) + call)
                self.assertEqual(told[:13], number_told(-8) + number_told(0) + fault_told(0))
                self.assertNotEqual(told[14], -8)

    def test_each_list_begins_without_one(self):
        s = machine(2, [wheel(2)], 1)
        for name, call in NINE.items():
            with self.subTest(name=name):
                answers(read(s))
                self.assertEqual(answers(call), number_told(-8))


if __name__ == "__main__":
    unittest.main()
