import random
import unittest

from helpers import MOST, PlainMachine, bytes_told, machine, number_told, numbers_told, perm, places, put, read
from helpers import some_machine, split, text, wheel, write
from wheelwriters.bench import answers

# Its wheel exchanges letters 1 and 2 of 3 where it stands at 0, 0 and 1 at 1, 0 and 2 at 2.
THREE = [3, 1, 0, 0, 1, 2, 0, 1, 2, 1, 0, 0, 0, 0, 0, 2, 1]
# Its last board sends back, but not by pairs, so that undoing is another thing than writing.
FIVE = machine(5, [wheel(5, 1, 2, 4, 1 << 3, [2, 0, 3, 4, 1]), wheel(5, 3, 1, 2, 1 << 2, [4, 1, 0, 2, 3])], 1,
               [3, 2, 0, 1, 4], [1, 2, 3, 4, 0])
SIXTEEN = machine(16, [wheel(16, 1, 5, 15, 1 << 15, reversed(range(16))), wheel(16, 2, 0, 0, 1)], 0,
                  [(i + 1) % 16 for i in range(16)], [(i * 3) % 16 for i in range(16)])


class Text(unittest.TestCase):
    def test_one_call_written_out(self):
        calls = [8, 17] + THREE + [14, 0, 3, 65, 65, 65]
        self.assertEqual(answers(calls), [3, 0, 0, 0, 6, 3, 3, 66, 67, 65, 0])

    def test_several_calls_written_out(self):
        calls = [8, 17] + THREE
        calls += [14, 0, 7, 65, 64, 66, 0, 68, 67, 255]
        calls += [10]
        calls += [14, 0, 0]
        calls += [14, 0, 2, 68, 32]
        calls += [14, 2, 1, 65]
        calls += [10]
        calls += [14, 1, 4, 65, 66, 67, 65]
        calls += [10]
        expected = [3, 0, 0, 0]
        expected += [10, 3, 7, 66, 64, 66, 0, 68, 66, 255, 0]
        expected += [4, 1, 0, 1, 0]
        expected += [3, 0, 0, 0]
        expected += [5, 0, 2, 68, 32, 0]
        expected += [3, -1, 0, 0]
        expected += [4, 1, 0, 1, 0]
        expected += [7, 4, 4, 66, 66, 66, 66, 0]
        expected += [4, 1, 0, 1, 1]
        self.assertEqual(answers(calls), expected)

    def test_writing_and_undoing_where_they_differ(self):
        # No wheels: 0 becomes 1, 1 becomes 2, 2 becomes 0.
        s = machine(3, [], 0, [1, 2, 0])
        told = answers(read(s) + text(0, [65, 66, 67]) + text(1, [65, 66, 67]))[4:]
        self.assertEqual(told, bytes_told(3, [66, 67, 65]) + bytes_told(3, [67, 65, 66]))

    def test_every_byte(self):
        for n in (2, 3, 8, 16):
            s = machine(n, [wheel(n)])
            told = answers(read(s) + text(0, range(256)) + places())[4:]
            # The wheel's wires and the boards move nothing, so letters pass too, but not without a step.
            with self.subTest(n=n):
                self.assertEqual(told, bytes_told(n, range(256)) + numbers_told(1, [0]))

    def test_bytes_that_pass_do_not_step(self):
        for n in (2, 3, 8, 15, 16):
            s = machine(n, [wheel(n)])
            for byte, moved in ((0, 0), (64, 0), (65, 1), (65 + n - 1, 1), (65 + n, 0), (66 + n, 0), (97, 0), (255, 0)):
                told = answers(read(s) + text(0, [byte]) + places() + text(1, [byte]) + places())[4:]
                expected = bytes_told(moved, [byte]) + numbers_told(1, [moved])
                expected += bytes_told(moved, [byte]) + numbers_told(1, [2 * moved % n])
                with self.subTest(n=n, byte=byte):
                    self.assertEqual(told, expected)

    def test_the_step_is_before_the_letter(self):
        told = split(answers(read(THREE) + perm(0) + perm(1) + text(0, [65])))
        self.assertEqual((told[1][3], told[2][3]), (0, 1))
        self.assertEqual(told[3], [1, 1, 66, 0])

    def test_perm_tells_what_text_does(self):
        for s in (THREE, FIVE, SIXTEEN):
            n = s[0]
            for k in range(1, 40):
                after = split(answers(read(s) + perm(k)))[1][3:]
                for letter in range(n):
                    told = split(answers(read(s) + text(0, [65] * (k - 1) + [65 + letter])))[1]
                    self.assertEqual(told[2:-1][k - 1], 65 + after[letter])
                    told = split(answers(read(s) + text(1, [65] * (k - 1) + [65 + letter])))[1]
                    self.assertEqual(after[told[2:-1][k - 1] - 65], letter)

    def test_letter_by_letter(self):
        rng = random.Random(25)
        for turn in range(150):
            n = rng.randrange(2, 17)
            s = some_machine(rng, n, rng.choice((0, 1, 2, 3, 3, 4)), rng.randrange(2))
            given = [rng.choice((rng.randrange(65, 65 + n), rng.randrange(256))) for i in range(40)]
            undo = rng.randrange(2)
            plain = PlainMachine(s)
            expected = plain.written(undo, given)
            letters = len([byte for byte in given if 65 <= byte < 65 + n])
            told = answers(read(s) + text(undo, given) + places())[4:]
            with self.subTest(s=s, undo=undo):
                self.assertEqual(told, bytes_told(letters, expected) + numbers_told(len(plain.stands), plain.stands))


class Undoing(unittest.TestCase):
    def test_written_it_is_undone_from_the_same_stand(self):
        rng = random.Random(26)
        for turn in range(100):
            n = rng.randrange(2, 17)
            s = some_machine(rng, n, rng.choice((0, 1, 2, 3, 3, 4)), rng.randrange(2))
            given = [rng.choice((rng.randrange(65, 65 + n), rng.randrange(256))) for i in range(60)]
            for undo in (0, 1):
                told = split(answers(read(s) + text(undo, given) + write()))
                again = split(answers(read(s) + text(1 - undo, told[1][2:-1]) + write()))
                with self.subTest(s=s, undo=undo):
                    self.assertEqual(again[1], bytes_told(told[1][0], given)[1:])
                    self.assertEqual(again[2], told[2])

    def test_from_a_stand_that_was_put(self):
        given = [65 + i * i % 5 for i in range(100)]
        written = split(answers(read(FIVE) + put([3, 2]) + text(0, given)))[2][2:-1]
        calls = read(FIVE) + text(0, given) + put([3, 2]) + text(1, written)
        self.assertEqual(split(answers(calls))[3], bytes_told(100, given)[1:])
        self.assertNotEqual(written, given)

    def test_by_pairs_writing_undoes_too(self):
        s = machine(4, [wheel(4, 1, 1, 2, 1, [2, 0, 3, 1]), wheel(4, 2, 0, 0, 0, [3, 2, 0, 1])], 1, [1, 2, 3, 0],
                    [1, 0, 3, 2])
        given = [65 + i % 4 for i in range(50)]
        written = split(answers(read(s) + text(0, given)))[1]
        self.assertEqual(split(answers(read(s) + text(1, given)))[1], written)
        self.assertEqual(split(answers(read(s) + text(0, written[2:-1])))[1][2:-1], given)

    def test_pieces_are_the_whole(self):
        rng = random.Random(27)
        for s in (THREE, FIVE, SIXTEEN):
            n = s[0]
            given = [rng.randrange(60, 68 + n) for i in range(90)]
            for undo in (0, 1):
                whole = split(answers(read(s) + text(undo, given) + places()))
                for cut in range(0, 91, 9):
                    for second in range(cut, 91, 13):
                        pieces = text(undo, given[:cut]) + text(undo, given[cut:second]) + text(undo, given[second:])
                        told = split(answers(read(s) + pieces + places()))
                        with self.subTest(n=n, undo=undo, cut=cut, second=second):
                            self.assertEqual(told[1][2:-1] + told[2][2:-1] + told[3][2:-1], whole[1][2:-1])
                            self.assertEqual(told[1][0] + told[2][0] + told[3][0], whole[1][0])
                            self.assertEqual(told[4], whole[2])


class RefusedTexts(unittest.TestCase):
    def test_how_many_bytes(self):
        for length, number in ((0, 0), (1, 1), (1023, 1023), (1024, 1024)):
            for undo in (0, 1):
                given = [65 + i % 16 for i in range(length)]
                plain = PlainMachine(SIXTEEN)
                expected = bytes_told(number, plain.written(undo, given)) + numbers_told(2, plain.stands)
                with self.subTest(length=length, undo=undo):
                    self.assertEqual(answers(read(SIXTEEN) + text(undo, given) + places())[4:], expected)

    def test_too_many_bytes(self):
        for length in (1025, 1026, 2048, 15000):
            for byte in (65, 0, 255):
                for undo in (0, 1, 2, MOST):
                    told = answers(read(SIXTEEN) + text(undo, [byte] * length) + places())[4:]
                    with self.subTest(length=length, byte=byte, undo=undo):
                        self.assertEqual(told, number_told(-2) + numbers_told(2, [15, 0]))

    def test_undo_above_1(self):
        for undo in (2, 3, 255, 256, MOST - 1, MOST):
            for length in (0, 1, 1024):
                told = answers(read(SIXTEEN) + text(undo, [65] * length) + places())[4:]
                with self.subTest(undo=undo, length=length):
                    self.assertEqual(told, number_told(-1) + numbers_told(2, [15, 0]))

    def test_1024_bytes_that_all_pass(self):
        told = answers(read(SIXTEEN) + text(0, [32] * 1024) + places())[4:]
        self.assertEqual(told, bytes_told(0, [32] * 1024) + numbers_told(2, [15, 0]))


if __name__ == "__main__":
    unittest.main()
