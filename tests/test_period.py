import random
import unittest

from helpers import MOST, PlainMachine, machine, number_told, numbers_told, period, places, read, some_machine, steps
from helpers import wheel
from wheelwriters.bench import answers

# Wheel 1 moves from 0 over 1 to 2 by its own notches and stays there, while wheel 0 goes round: t is 2, r is 3.
LEADS_IN = machine(3, [wheel(3), wheel(3, 3, 0, 0, 3)])


def ten(stands):
    """10 letters; from [0, 2, 0, 0] it comes round after 2000 steps, from [0, 1, 0, 0] only a step later."""
    kinds = (1, 3, 2, 2)
    notches = (1 << 6, 1 << 0 | 1 << 1, 1 << 4 | 1 << 6, 1 << 3)
    return machine(10, [wheel(10, kinds[w], 0, stands[w], notches[w]) for w in range(4)])


def plain_period(s, most):
    """t and r found step by step, or None if they're more than most."""
    plain = PlainMachine(s)
    stood = []
    while plain.stands not in stood:
        stood.append(list(plain.stands))
        plain.step()
        if len(stood) > most:
            return None
    t = stood.index(plain.stands)
    return [t, len(stood) - t]


class Period(unittest.TestCase):
    def test_one_call_written_out(self):
        calls = [8, 14, 2, 1, 1, 0, 1, 1, 0, 1, 0, 1, 3, 0, 1, 0, 15, 2]
        self.assertEqual(answers(calls), [3, 0, 0, 0, 5, 0, 0, 2, 0, 2])

    def test_several_calls_written_out(self):
        calls = [8, 25, 3, 2, 0, 0, 1, 2, 0, 1, 2, 1, 0, 0, 0, 0, 0, 1, 2, 3, 0, 0, 3, 0, 0, 1, 2]
        calls += [15, 0, 15, 4, 15, 5, 15, 2000, 15, 2001, 12, 1, 15, 4, 10, 12, 1, 15, 3, 15, 2, 10]
        expected = [3, 0, 0, 0]
        expected += [3, 1, 0, 0]
        expected += [3, 1, 0, 0]
        expected += [5, 0, 0, 2, 2, 3]
        expected += [5, 0, 0, 2, 2, 3]
        expected += [3, -2, 0, 0]
        expected += [3, 0, 0, 0]
        expected += [5, 0, 0, 2, 1, 3]
        expected += [5, 2, 0, 2, 1, 1]
        expected += [3, 0, 0, 0]
        expected += [5, 0, 0, 2, 0, 3]
        expected += [3, 1, 0, 0]
        expected += [5, 2, 0, 2, 2, 2]
        self.assertEqual(answers(calls), expected)

    def test_machines_with_no_wheels_or_wheels_that_never_move(self):
        for s in (machine(2), machine(16), machine(2, [wheel(2, 0)]), machine(3, [wheel(3, 0), wheel(3, 2)]),
                  machine(3, [wheel(3, 0), wheel(3, 3, 0, 0, 2), wheel(3, 2), wheel(3, 0, 0, 0, 7)])):
            told = answers(read(s) + period(0) + period(1) + period(2) + period(2000))[4:]
            with self.subTest(s=s):
                self.assertEqual(told, number_told(1) + numbers_told(0, [0, 1]) * 3)

    def test_one_wheel_that_always_moves(self):
        for n in range(2, 17):
            s = machine(n, [wheel(n, 1, 1, n - 1)])
            told = answers(read(s) + period(n - 1) + period(n) + period(n + 1))[4:]
            with self.subTest(n=n):
                self.assertEqual(told, number_told(1) + numbers_told(0, [0, n]) * 2)

    def test_t_above_0(self):
        for n in range(2, 17):
            # Wheel 1 has notches at all letters but the last, so it comes there and stays.
            s = machine(n, [wheel(n, 0), wheel(n, 3, 0, 0, (1 << (n - 1)) - 1)])
            told = answers(read(s) + period(n - 1) + period(n) + period(2000))[4:]
            with self.subTest(n=n):
                self.assertEqual(told, number_told(1) + numbers_told(0, [n - 1, 1]) * 2)

    def test_around_t_plus_r(self):
        for most, expected in ((0, number_told(1)), (1, number_told(1)), (3, number_told(1)), (4, number_told(1)),
                               (5, numbers_told(0, [2, 3])), (6, numbers_told(0, [2, 3])),
                               (1999, numbers_told(0, [2, 3])), (2000, numbers_told(0, [2, 3]))):
            with self.subTest(most=most):
                self.assertEqual(answers(read(LEADS_IN) + period(most))[4:], expected)

    def test_around_2000(self):
        told = answers(read(ten([0, 2, 0, 0])) + period(1999) + period(2000) + steps(2000) + places())[4:]
        expected = number_told(1) + numbers_told(0, [0, 2000]) + number_told(0) + numbers_told(4, [0, 2, 0, 0])
        self.assertEqual(told, expected)
        told = answers(read(ten([0, 1, 0, 0])) + period(2000) + steps(1) + period(1999) + period(2000))[4:]
        expected = number_told(1) + number_told(0) + number_told(1) + numbers_told(0, [0, 2000])
        self.assertEqual(told, expected)

    def test_above_2000(self):
        for most in (2001, 2002, 10000, MOST):
            for s in (machine(2), LEADS_IN, ten([0, 1, 0, 0])):
                with self.subTest(most=most, letters=s[0]):
                    self.assertEqual(answers(read(s) + period(most))[4:], number_told(-2))

    def test_the_stands_are_as_before(self):
        told = answers(read(LEADS_IN) + period(2000) + places() + period(1) + places() + period(2001) + places())[4:]
        stands = numbers_told(2, [0, 0])
        self.assertEqual(told, numbers_told(0, [2, 3]) + stands + number_told(1) + stands + number_told(-2) + stands)

    def test_step_by_step(self):
        rng = random.Random(28)
        for turn in range(150):
            s = some_machine(rng, rng.randrange(2, 9), rng.randrange(5), 0)
            expected = plain_period(s, 200)
            told = answers(read(s) + period(200))[4:]
            with self.subTest(s=s):
                self.assertEqual(told, number_told(1) if expected is None else numbers_told(0, expected))


if __name__ == "__main__":
    unittest.main()
