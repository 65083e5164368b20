import itertools
import random
import unittest

from helpers import MOST, PlainMachine, machine, number_told, numbers_told, perm, places, put, read, some_machine
from helpers import split, steps, wheel
from wheelwriters.bench import answers

# Wheel 0 always moves, so after 10000 steps from letter 5 it stands at 10005 modulo 16.
ODOMETER = machine(16, [wheel(16, 1, 3, 5, 1 << 15), wheel(16, 2, 0, 2)])


def stands_after(s, stands, k):
    """How the wheels stand after k steps from these stands."""
    return split(answers(read(s) + put(stands) + steps(k) + places()))[3][3:]


class Steps(unittest.TestCase):
    def test_one_call_written_out(self):
        calls = [8, 14, 2, 1, 1, 0, 1, 1, 0, 1, 0, 1, 3, 0, 1, 0, 12, 3, 10]
        self.assertEqual(answers(calls), [3, 0, 0, 0, 3, 0, 0, 0, 4, 1, 0, 1, 0])

    def test_several_calls_written_out(self):
        calls = [8, 14, 2, 1, 1, 0, 1, 1, 0, 1, 0, 1, 3, 0, 1, 0, 12, 0, 10, 12, 10001, 10, 12, 1, 10]
        expected = [3, 0, 0, 0, 3, 0, 0, 0, 4, 1, 0, 1, 1, 3, -2, 0, 0, 4, 1, 0, 1, 1, 3, 0, 0, 0, 4, 1, 0, 1, 0]
        self.assertEqual(answers(calls), expected)

    def test_how_many(self):
        # Wheel 1 moves each time that wheel 0 leaves letter 15: 1 + (10000 - 11) // 16 times in 10000 steps.
        for k, number, stands in ((0, 0, [5, 2]), (1, 0, [6, 2]), (10, 0, [15, 2]), (11, 0, [0, 3]), (27, 0, [0, 4]),
                                  (9999, 0, [4, (2 + 625) % 16]), (10000, 0, [5, (2 + 625) % 16]),
                                  (10001, -2, [5, 2]), (10002, -2, [5, 2]), (MOST, -2, [5, 2])):
            told = answers(read(ODOMETER) + steps(k) + places())[4:]
            with self.subTest(k=k):
                self.assertEqual(told, number_told(number) + numbers_told(2, stands))

    def test_no_wheels(self):
        told = answers(read(machine(3)) + steps(0) + steps(10000) + steps(10001) + places())[4:]
        self.assertEqual(told, number_told(0) * 2 + number_told(-2) + numbers_told(0, []))

    def test_one_after_another_is_all_at_once(self):
        rng = random.Random(21)
        for turn in range(20):
            s = some_machine(rng, rng.randrange(2, 9), 4, 0)
            one_by_one = answers(read(s) + steps(1) * 37 + places())[4 * 38:]
            self.assertEqual(answers(read(s) + steps(37) + places())[8:], one_by_one)
            self.assertEqual(answers(read(s) + steps(20) + steps(0) + steps(17) + places())[16:], one_by_one)

    def test_10000_steps_letter_by_letter(self):
        rng = random.Random(22)
        for turn in range(5):
            s = some_machine(rng, 16, 4, 0)
            plain = PlainMachine(s)
            for step in range(10000):
                plain.step()
            self.assertEqual(answers(read(s) + steps(10000) + places())[8:], numbers_told(4, plain.stands))


class KindsOfWheels(unittest.TestCase):
    def test_kind_0_never(self):
        # Its own notch and its neighbour's are of no account.
        s = machine(3, [wheel(3, 0, 0, 0, 7), wheel(3, 0, 0, 0, 7)])
        for stands in itertools.product(range(3), repeat=2):
            self.assertEqual(stands_after(s, stands, 1), list(stands))

    def test_kind_1_always(self):
        s = machine(3, [wheel(3, 1), wheel(3, 1)])
        for stands in itertools.product(range(3), repeat=2):
            self.assertEqual(stands_after(s, stands, 1), [(stands[0] + 1) % 3, (stands[1] + 1) % 3])

    def test_kind_2(self):
        # Wheel 0 has a notch at 1, wheel 1 at 2, wheel 0 stays where it is.
        s = machine(4, [wheel(4, 0, 0, 0, 1 << 1), wheel(4, 2, 0, 0, 1 << 2)])
        self.assertEqual(stands_after(s, [1, 0], 1), [1, 1])
        self.assertEqual(stands_after(s, [0, 2], 1), [0, 2])
        self.assertEqual(stands_after(s, [1, 2], 1), [1, 3])
        self.assertEqual(stands_after(s, [0, 0], 1), [0, 0])
        self.assertEqual(stands_after(s, [1, 3], 1), [1, 0])

    def test_kind_3(self):
        s = machine(4, [wheel(4, 0, 0, 0, 1 << 1), wheel(4, 3, 0, 0, 1 << 2 | 1 << 3)])
        self.assertEqual(stands_after(s, [1, 0], 1), [1, 1])
        self.assertEqual(stands_after(s, [0, 2], 1), [0, 3])
        self.assertEqual(stands_after(s, [1, 2], 1), [1, 3])
        self.assertEqual(stands_after(s, [0, 0], 1), [0, 0])
        self.assertEqual(stands_after(s, [0, 3], 1), [0, 0])
        self.assertEqual(stands_after(s, [1, 3], 1), [1, 0])

    def test_the_neighbour_is_the_wheel_before_alone(self):
        # Notches of wheel 0 alone: wheel 2 has them as a neighbour's neighbour's; wheel 3's are behind wheel 2.
        for kind in (2, 3):
            s = machine(2, [wheel(2, 0, 0, 0, 3), wheel(2, 0), wheel(2, kind), wheel(2, 0, 0, 0, 3)])
            self.assertEqual(stands_after(s, [0, 0, 0, 0], 1), [0, 0, 0, 0])

    def test_all_by_how_they_stood_before(self):
        # Wheel 0 comes to its notch with the first step, and wheel 1 with the second: each is felt a step later.
        for kind in (2, 3):
            s = machine(5, [wheel(5, 1, 0, 0, 1 << 1), wheel(5, kind, 0, 0, 1 << 1), wheel(5, 2, 0, 0, 0)])
            self.assertEqual(stands_after(s, [0, 0, 0], 1), [1, 0, 0])
            self.assertEqual(stands_after(s, [0, 0, 0], 2), [2, 1, 0])
            self.assertEqual(stands_after(s, [0, 0, 0], 3), [3, 2 if kind == 3 else 1, 1])

    def test_a_wheel_that_does_not_move_off_its_notch_moves_its_neighbour_again(self):
        s = machine(5, [wheel(5, 0, 0, 2, 1 << 2), wheel(5, 2)])
        self.assertEqual(stands_after(s, [2, 0], 1), [2, 1])
        self.assertEqual(stands_after(s, [2, 0], 4), [2, 4])
        self.assertEqual(stands_after(s, [2, 0], 5), [2, 0])

    def test_the_ring_does_not_move_the_notches(self):
        for ring in range(4):
            s = machine(4, [wheel(4, 1, ring, 0, 1 << 3), wheel(4, 2, ring, 0, 0)])
            self.assertEqual(stands_after(s, [3, 0], 1), [0, 1])
            self.assertEqual(stands_after(s, [2, 0], 1), [3, 0])

    def test_from_the_last_letter_to_the_first(self):
        for n in range(2, 17):
            s = machine(n, [wheel(n, 1, 0, 0, 1 << (n - 1)), wheel(n, 2, 0, 0, 1 << (n - 1)), wheel(n, 3),
                            wheel(n, 1)])
            self.assertEqual(stands_after(s, [n - 1] * 4, 1), [0, 0, 0, 0])

    def test_no_notches(self):
        s = machine(3, [wheel(3), wheel(3, 2), wheel(3, 3), wheel(3, 2)])
        self.assertEqual(stands_after(s, [0, 1, 2, 0], 100), [1, 1, 2, 0])

    def test_all_stands_of_many_machines(self):
        rng = random.Random(23)
        for turn in range(20):
            n = rng.choice((2, 3))
            how_many = rng.randrange(1, 5)
            s = some_machine(rng, n, how_many, 0)
            calls = read(s)
            expected = number_told(0)
            for stands in itertools.product(range(n), repeat=how_many):
                plain = PlainMachine(s)
                plain.stands = list(stands)
                plain.step()
                calls += put(stands) + steps(1) + places()
                expected += number_told(0) * 2 + numbers_told(how_many, plain.stands)
            self.assertEqual(answers(calls), expected)


class Perm(unittest.TestCase):
    def test_written_out(self):
        # The wheel exchanges letters 1 and 2 of 3 where it stands at 0, 0 and 1 at 1, 0 and 2 at 2.
        calls = [8, 17, 3, 1, 0, 0, 1, 2, 0, 1, 2, 1, 0, 0, 0, 0, 0, 2, 1]
        calls += [13, 0, 13, 1, 13, 2, 13, 3, 10, 12, 1, 13, 0]
        expected = [3, 0, 0, 0]
        expected += [19, 0, 0, 16, 0, 2, 1, 3, 4, 5, 6, 7, 8, 9, 10, 11, 12, 13, 14, 15]
        expected += [19, 0, 0, 16, 1, 0, 2, 3, 4, 5, 6, 7, 8, 9, 10, 11, 12, 13, 14, 15]
        expected += [19, 0, 0, 16, 2, 1, 0, 3, 4, 5, 6, 7, 8, 9, 10, 11, 12, 13, 14, 15]
        expected += [19, 0, 0, 16, 0, 2, 1, 3, 4, 5, 6, 7, 8, 9, 10, 11, 12, 13, 14, 15]
        expected += [4, 1, 0, 1, 0]
        expected += [3, 0, 0, 0]
        expected += [19, 0, 0, 16, 1, 0, 2, 3, 4, 5, 6, 7, 8, 9, 10, 11, 12, 13, 14, 15]
        self.assertEqual(answers(calls), expected)

    def test_the_ring_turns_the_other_way(self):
        # With ring 1 it's at stand 1 what it is with ring 0 at stand 0, and at stand 0 what it is there at 2.
        calls = [8, 17, 3, 1, 0, 0, 1, 2, 0, 1, 2, 1, 1, 0, 0, 0, 0, 2, 1, 13, 0, 13, 1, 13, 2]
        expected = [3, 0, 0, 0]
        expected += [19, 0, 0, 16, 2, 1, 0, 3, 4, 5, 6, 7, 8, 9, 10, 11, 12, 13, 14, 15]
        expected += [19, 0, 0, 16, 0, 2, 1, 3, 4, 5, 6, 7, 8, 9, 10, 11, 12, 13, 14, 15]
        expected += [19, 0, 0, 16, 1, 0, 2, 3, 4, 5, 6, 7, 8, 9, 10, 11, 12, 13, 14, 15]
        self.assertEqual(answers(calls), expected)

    def test_a_last_board_that_sends_back_and_one_that_does_not(self):
        # 0 goes to 1 by the first board, to 2 by the wheel, to 0 by the last board. The wheel leaves 0 on the way back,
        # and it's 2 that goes to 0 by the first board.
        wheels = [wheel(3, 0, 0, 0, 0, [0, 2, 1])]
        forward = machine(3, wheels, 0, [1, 2, 0], [1, 2, 0])
        back = machine(3, wheels, 1, [1, 2, 0], [1, 2, 0])
        self.assertEqual(answers(read(forward) + perm(0))[4:], numbers_told(0, [0, 2, 1] + list(range(3, 16))))
        self.assertEqual(answers(read(back) + perm(0))[4:], numbers_told(0, [2, 0, 1] + list(range(3, 16))))

    def test_how_many_steps_and_the_stands_afterwards(self):
        plain = PlainMachine(ODOMETER)
        by_steps = {}
        for k in range(10001):
            if k in (0, 1, 15, 10000):
                by_steps[k] = plain.permutation()
            plain.step()
        for k in (0, 1, 15, 10000):
            told = answers(read(ODOMETER) + perm(k) + places())[4:]
            with self.subTest(k=k):
                self.assertEqual(told, numbers_told(0, by_steps[k]) + numbers_told(2, [5, 2]))
        for k in (10001, 10002, MOST):
            told = answers(read(ODOMETER) + perm(k) + places())[4:]
            with self.subTest(k=k):
                self.assertEqual(told, number_told(-2) + numbers_told(2, [5, 2]))

    def test_letter_by_letter(self):
        rng = random.Random(24)
        for n in range(2, 17):
            for how_many in range(5):
                for sends_back in (0, 1):
                    s = some_machine(rng, n, how_many, sends_back)
                    k = rng.randrange(30)
                    plain = PlainMachine(s)
                    for step in range(k):
                        plain.step()
                    told = answers(read(s) + perm(k) + steps(k) + perm(0))
                    expected = numbers_told(0, plain.permutation())
                    with self.subTest(s=s, k=k):
                        self.assertEqual(told, number_told(0) + expected + number_told(0) + expected)


if __name__ == "__main__":
    unittest.main()
