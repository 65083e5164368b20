import random
import unittest

from helpers import boards, bytes_told, keys, machine, number_told, numbers_told, period, perm, places, put, read
from helpers import some_machine, split, steps, text, wheel, write
from wheelwriters.bench import answers

# Notches of letters 0 and 9: of both bytes.
TEN = machine(10, [wheel(10, 1, 4, 7, 0x201, [3, 1, 4, 0, 5, 9, 2, 6, 8, 7]), wheel(10, 3, 9, 9, 0x3ff)], 1,
              [9, 8, 7, 6, 5, 4, 3, 2, 1, 0], [1, 2, 3, 4, 5, 6, 7, 8, 9, 0])


def with_stands(s, stands):
    """The machine's bytes, with other stands."""
    s = list(s)
    for number, stand in enumerate(stands):
        s[3 + 2 * s[0] + number * (5 + s[0]) + 2] = stand
    return s


class Write(unittest.TestCase):
    def test_one_call_written_out(self):
        calls = [8, 14, 2, 1, 1, 0, 1, 1, 0, 1, 0, 1, 3, 0, 1, 0, 9]
        expected = [3, 0, 0, 0, 17, 14, 14, 2, 1, 1, 0, 1, 1, 0, 1, 0, 1, 3, 0, 1, 0, 0]
        self.assertEqual(answers(calls), expected)

    def test_several_calls_written_out(self):
        calls = [8, 7, 2, 0, 0, 1, 0, 0, 1, 9, 8, 14, 2, 1, 1, 0, 1, 1, 0, 1, 0, 1, 3, 0, 1, 0, 12, 1, 9, 9]
        expected = [3, 0, 0, 0]
        expected += [10, 7, 7, 2, 0, 0, 1, 0, 0, 1, 0]
        expected += [3, 0, 0, 0]
        expected += [3, 0, 0, 0]
        expected += [17, 14, 14, 2, 1, 1, 0, 1, 1, 0, 1, 0, 0, 3, 0, 1, 0, 0]
        expected += [17, 14, 14, 2, 1, 1, 0, 1, 1, 0, 1, 0, 0, 3, 0, 1, 0, 0]
        self.assertEqual(answers(calls), expected)

    def test_notches_have_the_lower_byte_first(self):
        self.assertEqual(answers(read(TEN) + write())[4:], bytes_told(53, TEN))

    def test_as_the_wheels_stand_now(self):
        calls = read(TEN) + put([9, 0]) + write() + steps(1) + write() + text(0, [65, 32, 66]) + write()
        told = split(answers(calls))
        self.assertEqual(told[2], bytes_told(53, with_stands(TEN, [9, 0]))[1:])
        self.assertEqual(told[4], bytes_told(53, with_stands(TEN, [0, 1]))[1:])
        self.assertEqual(told[6], bytes_told(53, with_stands(TEN, [2, 3]))[1:])

    def test_what_only_asks_leaves_the_bytes(self):
        asks = perm(5) + places() + period(2000) + keys(0, [3, 1, 2]) + boards(0, [3, 1, 2]) + write()
        told = split(answers(read(TEN) + write() + asks + asks))
        self.assertEqual(told[1], bytes_told(53, TEN)[1:])
        self.assertEqual(told[7], told[1])
        self.assertEqual(told[13], told[1])

    def test_what_is_refused_leaves_the_bytes(self):
        refused = put([1]) + put([1, 10]) + steps(10001) + perm(10001) + text(0, [65] * 1025) + text(2, [65])
        refused += period(2001) + keys(0, [1]) + boards(0, [1])
        told = split(answers(read(TEN) + refused + write()))
        for refusal in told[1:-1]:
            self.assertLess(refusal[0], 0)
        self.assertEqual(told[-1], bytes_told(53, TEN)[1:])

    def test_read_again_it_is_the_same_machine(self):
        rng = random.Random(20)
        for turn in range(60):
            s = some_machine(rng, rng.randrange(2, 17), rng.choice((0, 1, 2, 3, 3, 4)), rng.randrange(2))
            written = split(answers(read(s) + steps(7) + write()))[2][2:-1]
            asks = places() + perm(3) + text(0, [65, 66, 65, 66] * 5) + places()
            self.assertEqual(answers(read(s) + steps(7) + asks)[8:], answers(read(written) + asks)[4:])
            self.assertEqual(answers(read(written) + write())[4:], bytes_told(len(s), written))


class Places(unittest.TestCase):
    def test_written_out(self):
        calls = [8, 7, 2, 0, 0, 1, 0, 0, 1, 10, 8, 14, 2, 1, 1, 0, 1, 1, 0, 1, 0, 1, 3, 0, 1, 0, 10, 12, 1, 10]
        expected = [3, 0, 0, 0, 3, 0, 0, 0, 3, 0, 0, 0, 4, 1, 0, 1, 1, 3, 0, 0, 0, 4, 1, 0, 1, 0]
        self.assertEqual(answers(calls), expected)

    def test_0_to_4_wheels_wheel_0_first(self):
        for how_many in range(5):
            wheels = [wheel(16, 0, 1, 15 - 3 * number) for number in range(how_many)]
            told = answers(read(machine(16, wheels)) + places())
            with self.subTest(how_many=how_many):
                self.assertEqual(told, number_told(0) + numbers_told(how_many, [15, 12, 9, 6][:how_many]))

    def test_the_ring_is_not_the_stand(self):
        self.assertEqual(answers(read(TEN) + places())[4:], numbers_told(2, [7, 9]))


if __name__ == "__main__":
    unittest.main()
