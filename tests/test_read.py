import random
import unittest

from helpers import bytes_told, fault_told, machine, number_told, perm, places, put, read, some_machine, steps
from helpers import text, wheel, write
from wheelwriters.bench import answers

# 3 letters, 2 wheels: each field by itself, so that a test can say which byte it changes.
SMALL = [
    3, 2, 1,            # places 0 to 2: letters, wheels, sends back
    1, 0, 2,            # 3 to 5: the first board
    2, 1, 0,            # 6 to 8: the last board
    1, 2, 0, 5, 0,      # 9 to 13: wheel 0's kind, ring, stand, notches (12 and 13)
    1, 2, 0,            # 14 to 16: its wires
    3, 0, 1, 2, 0,      # 17 to 21: wheel 1's kind, ring, stand, notches (20 and 21)
    0, 2, 1,            # 22 to 24: its wires
]


def greatest():
    """16 letters, 4 wheels: no machine has more bytes."""
    notches = (0, 1, 32768, 65535)
    kinds = (1, 2, 3, 0)
    wheels = [wheel(16, kinds[w], 15, 15 - w, notches[w], reversed(range(16))) for w in range(4)]
    return machine(16, wheels, 1, [(i + 5) % 16 for i in range(16)], [i ^ 1 for i in range(16)])


def changed(s, place, byte):
    return s[:place] + [byte] + s[place + 1:]


class ReadsMachines(unittest.TestCase):
    def test_one_call_written_out(self):
        calls = [8, 25, 3, 2, 1, 1, 0, 2, 2, 1, 0, 1, 2, 0, 5, 0, 1, 2, 0, 3, 0, 1, 2, 0, 0, 2, 1]
        self.assertEqual(answers(calls), [3, 0, 0, 0])

    def test_several_calls_written_out(self):
        calls = [8, 7, 2, 0, 0, 0, 1, 1, 0]
        calls += [8, 7, 2, 0, 0, 0, 1, 1, 1]
        calls += [8, 0]
        calls += [8, 8, 2, 0, 0, 0, 1, 1, 0, 0]
        calls += [8, 7, 2, 0, 1, 1, 0, 1, 0]
        expected = [3, 0, 0, 0]
        expected += [4, -6, 0, 1, 6]
        expected += [4, -6, 0, 1, 0]
        expected += [4, -6, 0, 1, 7]
        expected += [3, 0, 0, 0]
        self.assertEqual(answers(calls), expected)

    def test_too_many_bytes_written_out(self):
        self.assertEqual(answers([8, 257] + [0] * 257), [3, -2, 0, 0])

    def test_0_to_4_wheels_and_2_to_16_letters(self):
        for n in range(2, 17):
            for how_many in range(5):
                for sends_back in (0, 1):
                    s = machine(n, [wheel(n) for w in range(how_many)], sends_back)
                    with self.subTest(n=n, how_many=how_many):
                        self.assertEqual(answers(read(s)), number_told(0))

    def test_the_greatest_machine(self):
        self.assertEqual(len(greatest()), 119)
        self.assertEqual(answers(read(greatest())), number_told(0))

    def test_kinds_of_wheel_0(self):
        for kind, expected in ((0, number_told(0)), (1, number_told(0)), (2, fault_told(9)), (3, fault_told(9)),
                               (4, fault_told(9)), (255, fault_told(9))):
            with self.subTest(kind=kind):
                self.assertEqual(answers(read(changed(SMALL, 9, kind))), expected)

    def test_kinds_of_the_other_wheels(self):
        for w in (1, 2, 3):
            for kind in (0, 1, 2, 3, 4, 255):
                wheels = [wheel(2) for number in range(4)]
                wheels[w] = wheel(2, kind)
                expected = number_told(0) if kind < 4 else fault_told(7 + 7 * w)
                with self.subTest(w=w, kind=kind):
                    self.assertEqual(answers(read(machine(2, wheels))), expected)

    def test_a_last_board_that_sends_back_is_any_permutation(self):
        self.assertEqual(answers(read(machine(3, [], 1, None, [1, 2, 0]))), number_told(0))
        self.assertEqual(answers(read(machine(3, [], 1, None, [0, 1, 2]))), number_told(0))

    def test_rings_and_stands_are_letters(self):
        for n in range(2, 17):
            ring_place = 3 + 2 * n + 1
            for letter in (0, 1, n - 1, n, n + 1, 16, 255):
                ring = answers(read(machine(n, [wheel(n, ring=letter)])))
                stand = answers(read(machine(n, [wheel(n, stand=letter)])))
                with self.subTest(n=n, letter=letter):
                    self.assertEqual(ring, number_told(0) if letter < n else fault_told(ring_place))
                    self.assertEqual(stand, number_told(0) if letter < n else fault_told(ring_place + 1))

    def test_notches_are_letters_below_n(self):
        for n in range(2, 17):
            place = 3 + 2 * n + 3
            for letter in range(16):
                told = answers(read(machine(n, [wheel(n, notches=1 << letter)])))
                with self.subTest(n=n, letter=letter):
                    self.assertEqual(told, number_told(0) if letter < n else fault_told(place))
            all_letters = (1 << n) - 1
            self.assertEqual(answers(read(machine(n, [wheel(n, notches=all_letters)]))), number_told(0))


class FaultsInFields(unittest.TestCase):
    def test_each_byte_of_a_small_machine(self):
        for place, first_wrong, expected in (
            (1, 5, 1), (2, 2, 2),
            (3, 3, 3), (4, 3, 4), (5, 3, 5),
            (6, 3, 6), (7, 3, 7), (8, 3, 8),
            (9, 2, 9), (10, 3, 10), (11, 3, 11), (12, 8, 12), (13, 1, 12),
            (14, 3, 14), (15, 3, 15), (16, 3, 16),
            (17, 4, 17), (18, 3, 18), (19, 3, 19), (20, 8, 20), (21, 1, 20),
            (22, 3, 22), (23, 3, 23), (24, 3, 24),
        ):
            for byte in (first_wrong, first_wrong + 1, 128, 255):
                with self.subTest(place=place, byte=byte):
                    self.assertEqual(answers(read(changed(SMALL, place, byte))), fault_told(expected))

    def test_how_many_letters(self):
        for n in (0, 1, 17, 18, 128, 255):
            with self.subTest(n=n):
                self.assertEqual(answers(read(changed(SMALL, 0, n))), fault_told(0))
                self.assertEqual(answers(read([n])), fault_told(0))

    def test_letters_that_stand_twice(self):
        for start in (3, 6, 14, 22):
            for earlier in range(3):
                for later in range(earlier + 1, 3):
                    s = changed(SMALL, start + later, SMALL[start + earlier])
                    with self.subTest(start=start, earlier=earlier, later=later):
                        self.assertEqual(answers(read(s)), fault_told(start + later))

    def test_boards_do_not_look_at_each_other(self):
        self.assertEqual(answers(read(machine(2, [], 0, [1, 0], [1, 0]))), number_told(0))
        self.assertEqual(answers(read(machine(2, [], 0, [1, 1], [1, 0]))), fault_told(4))
        self.assertEqual(answers(read(machine(2, [], 0, [1, 0], [0, 0]))), fault_told(6))

    def test_the_first_of_several_faults(self):
        for place in range(len(SMALL)):
            s = SMALL[:place] + [255] * (len(SMALL) - place)
            # The second byte of notches is in the field that begins a byte before it.
            expected = {13: 12, 21: 20}.get(place, place)
            with self.subTest(place=place):
                self.assertEqual(answers(read(s)), fault_told(expected))
                self.assertEqual(answers(read(s + [255] * 50)), fault_told(expected))

    def test_faults_in_the_last_wheel(self):
        s = greatest()
        start = 3 + 32 + 3 * 21
        self.assertEqual(answers(read(changed(s, start, 4))), fault_told(start))
        self.assertEqual(answers(read(changed(s, start + 1, 16))), fault_told(start + 1))
        self.assertEqual(answers(read(changed(s, start + 2, 16))), fault_told(start + 2))
        self.assertEqual(answers(read(changed(s, start + 5, 16))), fault_told(start + 5))
        self.assertEqual(answers(read(changed(s, 118, 16))), fault_told(118))
        self.assertEqual(answers(read(changed(s, 118, s[117]))), fault_told(118))


class BytesThatEndOrGoOn(unittest.TestCase):
    def test_no_bytes_at_all(self):
        self.assertEqual(answers([8, 0]), [4, -6, 0, 1, 0])

    def test_bytes_that_end_before_a_field_does(self):
        for s in (SMALL, greatest(), machine(2), machine(16), machine(2, [wheel(2)])):
            for length in range(len(s)):
                with self.subTest(letters=s[0], length=length):
                    self.assertEqual(answers(read(s[:length])), fault_told(length))

    def test_half_of_wrong_notches(self):
        self.assertEqual(answers(read(SMALL[:12] + [255])), fault_told(13))
        self.assertEqual(answers(read(SMALL[:20] + [8])), fault_told(21))

    def test_a_fault_before_the_end_comes_first(self):
        self.assertEqual(answers(read([17])), fault_told(0))
        self.assertEqual(answers(read([3, 5])), fault_told(1))
        self.assertEqual(answers(read([3, 2, 7])), fault_told(2))
        self.assertEqual(answers(read([3, 2, 1, 1, 1])), fault_told(4))
        self.assertEqual(answers(read(SMALL[:9] + [2])), fault_told(9))
        self.assertEqual(answers(read(SMALL[:12] + [8, 0])), fault_told(12))

    def test_bytes_left_over(self):
        for s in (SMALL, greatest(), machine(2), machine(16), machine(2, [wheel(2)])):
            for more in ([0], [255], [0] * 5, [1] * 100):
                with self.subTest(letters=s[0], more=len(more)):
                    self.assertEqual(answers(read(s + more)), fault_told(len(s)))

    def test_a_whole_wheel_left_over(self):
        s = machine(2, [wheel(2)]) + wheel(2)
        self.assertEqual(answers(read(s)), fault_told(14))
        self.assertEqual(answers(read(changed(s, 1, 2))), number_told(0))
        self.assertEqual(answers(read(changed(s, 1, 3))), fault_told(21))
        self.assertEqual(answers(read(changed(s, 1, 0))), fault_told(7))

    def test_256_bytes(self):
        for s in (SMALL, greatest(), machine(2)):
            self.assertEqual(answers(read(s + [0] * (256 - len(s)))), fault_told(len(s)))
        self.assertEqual(answers(read([0] * 256)), fault_told(0))
        self.assertEqual(answers(read([2] * 256)), fault_told(2))

    def test_257_bytes_and_more(self):
        for s in (SMALL, greatest(), machine(2)):
            self.assertEqual(answers(read(s + [0] * (257 - len(s)))), number_told(-2))
        for length in (257, 258, 512, 16000):
            for byte in (0, 2, 255):
                with self.subTest(length=length, byte=byte):
                    self.assertEqual(answers(read([byte] * length)), number_told(-2))


class TheMachineThatIsThere(unittest.TestCase):
    def test_none_at_the_beginning(self):
        self.assertEqual(answers(write()), number_told(-8))

    def test_each_byte_of_it(self):
        self.assertEqual(answers(read(SMALL) + write()), number_told(0) + bytes_told(25, SMALL))

    def test_the_lower_byte_of_notches_is_first(self):
        # Wheel 1 moves where wheel 0 stands at a notch: at 0 and at 15, or at 1 and at 8.
        for notches, moved_from in ((0x8001, (0, 15)), (0x0102, (1, 8))):
            for stand in range(16):
                s = machine(16, [wheel(16, 1, 0, stand, notches), wheel(16, 2)])
                told = answers(read(s) + steps(1) + places())[8:]
                with self.subTest(notches=notches, stand=stand):
                    self.assertEqual(told, [5, 2, 0, 2, (stand + 1) % 16, 1 if stand in moved_from else 0])

    def test_a_refusal_leaves_what_was(self):
        asks = write() + places() + perm(3) + text(0, [65, 66, 67, 65, 66, 67]) + write()
        whole = answers(read(SMALL) + put([2, 1]) + asks)[8:]
        for s in ([], [0], [2], SMALL[:-1], SMALL + [0], changed(SMALL, 24, 2), changed(SMALL, 11, 3), [0] * 257,
                  SMALL + [0] * 232, greatest()[:-1], machine(2) + [0]):
            told = answers(read(SMALL) + put([2, 1]) + read(s) + asks)
            with self.subTest(s=s):
                refusal = told[8:9 + told[8]]
                self.assertLess(refusal[1], 0)
                self.assertEqual(told[8 + len(refusal):], whole)

    def test_a_refusal_at_the_beginning_leaves_none(self):
        self.assertEqual(answers(read(SMALL[:-1]) + write()), fault_told(24) + number_told(-8))
        self.assertEqual(answers(read([0] * 257) + write()), number_told(-2) + number_told(-8))

    def test_another_machine_takes_its_place(self):
        calls = read(SMALL) + read(machine(2)) + write() + read(SMALL) + write()
        expected = number_told(0) * 2 + bytes_told(7, machine(2)) + number_told(0) + bytes_told(25, SMALL)
        self.assertEqual(answers(calls), expected)

    def test_the_same_machine_again_stands_as_told(self):
        calls = read(SMALL) + steps(4) + read(SMALL) + write()
        self.assertEqual(answers(calls), number_told(0) * 3 + bytes_told(25, SMALL))

    def test_one_row_of_bytes(self):
        # Whatever is read tells its bytes again, so no other row of bytes is the same machine.
        rng = random.Random(12)
        for turn in range(100):
            s = some_machine(rng, rng.randrange(2, 17), rng.choice((0, 1, 2, 3, 3, 4)), rng.randrange(2))
            self.assertEqual(answers(read(s) + write()), number_told(0) + bytes_told(len(s), s))


if __name__ == "__main__":
    unittest.main()
