import random
import unittest

from helpers import fault_told, number_told, read
from wheelwriters.bench import Line, answer_read, answers
from wheelwriters.machines import machine_from

# 3 letters, 2 wheels: each field by itself, so that a test can say which byte it changes.
SMALL = [
    3, 2, 1,            # places 0 to 2: letters, wheels, sends back
    1, 0, 2,            # 3 to 5: the first board
    2, 1, 0,            # 6 to 8: the last board
    1, 2, 0, 5, 0,      # 9 to 13: wheel 0's kind, ring, stand, notches (12 and 13)
    1, 2, 0,            # 14 to 16: its wires
    3, 0, 1, 2, 0,      # 17 to 21: wheel 1's kind, ring, stand, notches (20 and 21)
    0, 2, 1,            # 22 to 24: its wires
]


def wheel(n, kind=1, ring=0, stand=0, notches=0, wires=None):
    return [kind, ring, stand, notches % 256, notches // 256] + list(wires if wires is not None else range(n))


def machine(n, wheels=(), sends_back=0, first=None, last=None):
    s = [n, len(wheels), sends_back]
    s += list(first if first is not None else range(n))
    s += list(last if last is not None else range(n))
    for one in wheels:
        s += one
    return s


def greatest():
    """16 letters, 4 wheels: no machine has more bytes."""
    notches = (0, 1, 32768, 65535)
    kinds = (1, 2, 3, 0)
    wheels = [wheel(16, kinds[w], 15, 15 - w, notches[w], reversed(range(16))) for w in range(4)]
    return machine(16, wheels, 1, [(i + 5) % 16 for i in range(16)], [i ^ 1 for i in range(16)])


def changed(s, place, byte):
    return s[:place] + [byte] + s[place + 1:]


class ReadsMachines(unittest.TestCase):
    def test_one_call_written_out(self):
        calls = [8, 25, 3, 2, 1, 1, 0, 2, 2, 1, 0, 1, 2, 0, 5, 0, 1, 2, 0, 3, 0, 1, 2, 0, 0, 2, 1]
        self.assertEqual(answers(calls), [3, 0, 0, 0])

    def test_several_calls_written_out(self):
        calls = [8, 7, 2, 0, 0, 0, 1, 1, 0]
        calls += [8, 7, 2, 0, 0, 0, 1, 1, 1]
        calls += [8, 0]
        calls += [8, 8, 2, 0, 0, 0, 1, 1, 0, 0]
        calls += [8, 7, 2, 0, 1, 1, 0, 1, 0]
        expected = [3, 0, 0, 0]
        expected += [4, -6, 0, 1, 6]
        expected += [4, -6, 0, 1, 0]
        expected += [4, -6, 0, 1, 7]
        expected += [3, 0, 0, 0]
        self.assertEqual(answers(calls), expected)

    def test_too_many_bytes_written_out(self):
        self.assertEqual(answers([8, 257] + [0] * 257), [3, -2, 0, 0])

    def test_0_to_4_wheels_and_2_to_16_letters(self):
        for n in range(2, 17):
            for how_many in range(5):
                for sends_back in (0, 1):
                    s = machine(n, [wheel(n) for w in range(how_many)], sends_back)
                    with self.subTest(n=n, how_many=how_many):
                        self.assertEqual(answers(read(s)), number_told(0))

    def test_the_greatest_machine(self):
        self.assertEqual(len(greatest()), 119)
        self.assertEqual(answers(read(greatest())), number_told(0))

    def test_kinds_of_wheel_0(self):
        for kind, expected in ((0, number_told(0)), (1, number_told(0)), (2, fault_told(9)), (3, fault_told(9)),
                               (4, fault_told(9)), (255, fault_told(9))):
            with self.subTest(kind=kind):
                self.assertEqual(answers(read(changed(SMALL, 9, kind))), expected)

    def test_kinds_of_the_other_wheels(self):
        for w in (1, 2, 3):
            for kind in (0, 1, 2, 3, 4, 255):
                wheels = [wheel(2) for number in range(4)]
                wheels[w] = wheel(2, kind)
                expected = number_told(0) if kind < 4 else fault_told(7 + 7 * w)
                with self.subTest(w=w, kind=kind):
                    self.assertEqual(answers(read(machine(2, wheels))), expected)

    def test_a_last_board_that_sends_back_is_any_permutation(self):
        self.assertEqual(answers(read(machine(3, [], 1, None, [1, 2, 0]))), number_told(0))
        self.assertEqual(answers(read(machine(3, [], 1, None, [0, 1, 2]))), number_told(0))

    def test_rings_and_stands_are_letters(self):
        for n in range(2, 17):
            ring_place = 3 + 2 * n + 1
            for letter in (0, 1, n - 1, n, n + 1, 16, 255):
                ring = answers(read(machine(n, [wheel(n, ring=letter)])))
                stand = answers(read(machine(n, [wheel(n, stand=letter)])))
                with self.subTest(n=n, letter=letter):
                    self.assertEqual(ring, number_told(0) if letter < n else fault_told(ring_place))
                    self.assertEqual(stand, number_told(0) if letter < n else fault_told(ring_place + 1))

    def test_notches_are_letters_below_n(self):
        for n in range(2, 17):
            place = 3 + 2 * n + 3
            for letter in range(16):
                told = answers(read(machine(n, [wheel(n, notches=1 << letter)])))
                with self.subTest(n=n, letter=letter):
                    self.assertEqual(told, number_told(0) if letter < n else fault_told(place))
            all_letters = (1 << n) - 1
            self.assertEqual(answers(read(machine(n, [wheel(n, notches=all_letters)]))), number_told(0))


class FaultsInFields(unittest.TestCase):
    def test_each_byte_of_a_small_machine(self):
        for place, first_wrong, expected in (
            (1, 5, 1), (2, 2, 2),
            (3, 3, 3), (4, 3, 4), (5, 3, 5),
            (6, 3, 6), (7, 3, 7), (8, 3, 8),
            (9, 2, 9), (10, 3, 10), (11, 3, 11), (12, 8, 12), (13, 1, 12),
            (14, 3, 14), (15, 3, 15), (16, 3, 16),
            (17, 4, 17), (18, 3, 18), (19, 3, 19), (20, 8, 20), (21, 1, 20),
            (22, 3, 22), (23, 3, 23), (24, 3, 24),
        ):
            for byte in (first_wrong, first_wrong + 1, 128, 255):
                with self.subTest(place=place, byte=byte):
                    self.assertEqual(answers(read(changed(SMALL, place, byte))), fault_told(expected))

    def test_how_many_letters(self):
        for n in (0, 1, 17, 18, 128, 255):
            with self.subTest(n=n):
                self.assertEqual(answers(read(changed(SMALL, 0, n))), fault_told(0))
                self.assertEqual(answers(read([n])), fault_told(0))

    def test_letters_that_stand_twice(self):
        for start in (3, 6, 14, 22):
            for earlier in range(3):
                for later in range(earlier + 1, 3):
                    s = changed(SMALL, start + later, SMALL[start + earlier])
                    with self.subTest(start=start, earlier=earlier, later=later):
                        self.assertEqual(answers(read(s)), fault_told(start + later))

    def test_boards_do_not_look_at_each_other(self):
        self.assertEqual(answers(read(machine(2, [], 0, [1, 0], [1, 0]))), number_told(0))
        self.assertEqual(answers(read(machine(2, [], 0, [1, 1], [1, 0]))), fault_told(4))
        self.assertEqual(answers(read(machine(2, [], 0, [1, 0], [0, 0]))), fault_told(6))

    def test_the_first_of_several_faults(self):
        for place in range(len(SMALL)):
            s = SMALL[:place] + [255] * (len(SMALL) - place)
            # The second byte of notches is in the field that begins a byte before it.
            expected = {13: 12, 21: 20}.get(place, place)
            with self.subTest(place=place):
                self.assertEqual(answers(read(s)), fault_told(expected))
                self.assertEqual(answers(read(s + [255] * 50)), fault_told(expected))

    def test_faults_in_the_last_wheel(self):
        s = greatest()
        start = 3 + 32 + 3 * 21
        self.assertEqual(answers(read(changed(s, start, 4))), fault_told(start))
        self.assertEqual(answers(read(changed(s, start + 1, 16))), fault_told(start + 1))
        self.assertEqual(answers(read(changed(s, start + 2, 16))), fault_told(start + 2))
        self.assertEqual(answers(read(changed(s, start + 5, 16))), fault_told(start + 5))
        self.assertEqual(answers(read(changed(s, 118, 16))), fault_told(118))
        self.assertEqual(answers(read(changed(s, 118, s[117]))), fault_told(118))


class BytesThatEndOrGoOn(unittest.TestCase):
    def test_no_bytes_at_all(self):
        self.assertEqual(answers([8, 0]), [4, -6, 0, 1, 0])

    def test_bytes_that_end_before_a_field_does(self):
        for s in (SMALL, greatest(), machine(2), machine(16), machine(2, [wheel(2)])):
            for length in range(len(s)):
                with self.subTest(letters=s[0], length=length):
                    self.assertEqual(answers(read(s[:length])), fault_told(length))

    def test_half_of_wrong_notches(self):
        self.assertEqual(answers(read(SMALL[:12] + [255])), fault_told(13))
        self.assertEqual(answers(read(SMALL[:20] + [8])), fault_told(21))

    def test_a_fault_before_the_end_comes_first(self):
        self.assertEqual(answers(read([17])), fault_told(0))
        self.assertEqual(answers(read([3, 5])), fault_told(1))
        self.assertEqual(answers(read([3, 2, 7])), fault_told(2))
        self.assertEqual(answers(read([3, 2, 1, 1, 1])), fault_told(4))
        self.assertEqual(answers(read(SMALL[:9] + [2])), fault_told(9))
        self.assertEqual(answers(read(SMALL[:12] + [8, 0])), fault_told(12))

    def test_bytes_left_over(self):
        for s in (SMALL, greatest(), machine(2), machine(16), machine(2, [wheel(2)])):
            for more in ([0], [255], [0] * 5, [1] * 100):
                with self.subTest(letters=s[0], more=len(more)):
                    self.assertEqual(answers(read(s + more)), fault_told(len(s)))

    def test_a_whole_wheel_left_over(self):
        s = machine(2, [wheel(2)]) + wheel(2)
        self.assertEqual(answers(read(s)), fault_told(14))
        self.assertEqual(answers(read(changed(s, 1, 2))), number_told(0))
        self.assertEqual(answers(read(changed(s, 1, 3))), fault_told(21))
        self.assertEqual(answers(read(changed(s, 1, 0))), fault_told(7))

    def test_256_bytes(self):
        for s in (SMALL, greatest(), machine(2)):
            self.assertEqual(answers(read(s + [0] * (256 - len(s)))), fault_told(len(s)))
        self.assertEqual(answers(read([0] * 256)), fault_told(0))
        self.assertEqual(answers(read([2] * 256)), fault_told(2))

    def test_257_bytes_and_more(self):
        for s in (SMALL, greatest(), machine(2)):
            self.assertEqual(answers(read(s + [0] * (257 - len(s)))), number_told(-2))
        for length in (257, 258, 512, 16000):
            for byte in (0, 2, 255):
                with self.subTest(length=length, byte=byte):
                    self.assertEqual(answers(read([byte] * length)), number_told(-2))


class TheMachineThatIsThere(unittest.TestCase):
    def read_on(self, line, s):
        line.calls = read(s)[1:]
        line.taken = 0
        return answer_read(line)

    def test_none_at_the_beginning(self):
        self.assertIsNone(Line([]).machine)

    def test_each_part_of_it(self):
        line = Line([])
        self.assertEqual(self.read_on(line, SMALL), [0, 0, 0])
        told = line.machine
        self.assertEqual((told.letters, told.sends_back, len(told.wheels)), (3, True, 2))
        self.assertEqual(told.first_board, [1, 0, 2] + list(range(3, 16)))
        self.assertEqual(told.last_board, [2, 1, 0] + list(range(3, 16)))
        first, second = told.wheels
        self.assertEqual((first.kind, first.ring, first.stand, first.notches), (1, 2, 0, 5))
        self.assertEqual(first.wires, [1, 2, 0] + list(range(3, 16)))
        self.assertEqual((second.kind, second.ring, second.stand, second.notches), (3, 0, 1, 2))
        self.assertEqual(second.wires, [0, 2, 1] + list(range(3, 16)))

    def test_the_lower_byte_of_notches_is_first(self):
        self.assertEqual(machine_from(machine(16, [wheel(16, notches=0x8001)])).wheels[0].notches, 0x8001)
        self.assertEqual(machine_from(machine(16, [wheel(16, notches=0x0102)])).wheels[0].notches, 0x0102)

    def test_a_refusal_leaves_what_was(self):
        line = Line([])
        self.read_on(line, SMALL)
        was = line.machine
        for s in ([], [0], SMALL[:-1], SMALL + [0], changed(SMALL, 24, 2), [0] * 257, SMALL + [0] * 232):
            with self.subTest(s=s):
                self.assertLess(self.read_on(line, s)[0], 0)
                self.assertTrue(line.machine is was)
                self.test_each_part_of_it()

    def test_a_refusal_at_the_beginning_leaves_none(self):
        line = Line([])
        self.read_on(line, SMALL[:-1])
        self.assertIsNone(line.machine)

    def test_another_machine_takes_its_place(self):
        line = Line([])
        self.read_on(line, SMALL)
        self.read_on(line, machine(2))
        self.assertEqual((line.machine.letters, line.machine.sends_back, line.machine.wheels), (2, False, []))

    def test_one_row_of_bytes(self):
        # Whatever is read tells its bytes again, so no other row of bytes is the same machine.
        rng = random.Random(12)
        for turn in range(200):
            n = rng.randrange(2, 17)
            wheels = []
            for number in range(rng.randrange(5)):
                wires = rng.sample(range(n), n)
                kind = rng.randrange(2 if number == 0 else 4)
                wheels.append(wheel(n, kind, rng.randrange(n), rng.randrange(n), rng.randrange(1 << n), wires))
            s = machine(n, wheels, rng.randrange(2), rng.sample(range(n), n), rng.sample(range(n), n))
            self.assertEqual(answers(read(s)), number_told(0))
            told = machine_from(s)
            again = [wheel(n, w.kind, w.ring, w.stand, w.notches, w.wires[:n]) for w in told.wheels]
            boards = told.first_board[:n], told.last_board[:n]
            self.assertEqual(machine(told.letters, again, 1 if told.sends_back else 0, *boards), s)


if __name__ == "__main__":
    unittest.main()
