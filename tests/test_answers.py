import contextlib
import io
import random
import sys
import unittest

from helpers import MOST, STILL, back, boards, keys, machine, number_told, order, paired, period, perm, places, put
from helpers import read, right, rounds, rounds_of, seen, shape, some_machine, some_permutation, split, steps, text
from helpers import then, turned, wheel, write
from wheelwriters.bench import answers

A = [1, 2, 0, 4, 3, 5, 6, 7, 8, 9, 10, 11, 12, 13, 14, 15]
MACHINE = [2, 1, 1, 0, 1, 1, 0, 1, 0, 1, 3, 0, 1, 0]
GREAT = machine(16, [wheel(16, 1, 3, 15, 0x8001, A), wheel(16, 3, 0, 2, 4, A), wheel(16, 2), wheel(16, 0)], 1, A,
                [i ^ 1 for i in range(16)])

EACH_CALL = {
    "right": right(16, A),
    "right of wrong": right(17, A),
    "then": then(A, STILL),
    "then of wrong": then(A, []),
    "back": back(A),
    "back of wrong": back([0]),
    "turned": turned(16, 3, A),
    "turned by much": turned(5, MOST, A),
    "turned of wrong": turned(0, 3, A),
    "seen": seen(A, rounds([2, 9])),
    "seen of wrong": seen([], A),
    "order": order(A),
    "order of wrong": order(STILL + [16]),
    "shape": shape(7, A),
    "shape of wrong": shape(1, A),
    "paired": paired(16, A),
    "paired of wrong": paired(2, A),
    "read": read(MACHINE),
    "read of too few": read(MACHINE[:-1]),
    "read of too many": read([0] * 257),
}
for name, call in {
    "write": write(),
    "places": places(),
    "put": put([0]) + put([1, 2, 3, 4]),
    "put of wrong": put([2]) + put([]),
    "steps": steps(0) + steps(1) + steps(10000),
    "steps of too many": steps(10001),
    "perm": perm(0) + perm(9999),
    "perm of too many": perm(MOST),
    "text": text(0, range(256)) + text(1, [65, 66, 90]),
    "text of 1024": text(0, [65] * 1024),
    "text of wrong": text(2, [65]) + text(1, [65] * 1025),
    "period": period(0) + period(2000),
    "period of too many": period(2001),
    "keys": keys(0, []) + keys(0, [64, 1, 0, 2, 0, 1]) + keys(1, [1, 1, 1]),
    "keys of wrong": keys(0, [1]) + keys(0, [0, 0, 0]),
    "boards": boards(0, []) + boards(0, [64, 1, 0, 2, 0, 1]) + boards(1, [1, 1, 1]),
    "boards of wrong": boards(0, [1]) + boards(0, [1, 2, MOST]),
}.items():
    EACH_CALL[name] = read(MACHINE) + call + write()
    EACH_CALL[name + ", 16 letters"] = read(GREAT) + call + write()


class Unchanging(list):
    """A list that can't be changed, not for a while either."""

    def refuse(self, *given, **named):
        raise AssertionError("what was handed in was changed")

    append = extend = insert = remove = pop = clear = sort = reverse = refuse
    __setitem__ = __delitem__ = __iadd__ = __imul__ = refuse


class SeveralCalls(unittest.TestCase):
    def test_all_nine_written_out(self):
        calls = [0, 5, 16, 1, 2, 0, 4, 3, 5, 6, 7, 8, 9, 10, 11, 12, 13, 14, 15]
        calls += [1, 16, 1, 2, 0, 4, 3, 5, 6, 7, 8, 9, 10, 11, 12, 13, 14, 15]
        calls += [16, 0, 1, 3, 2, 4, 5, 6, 7, 8, 9, 10, 11, 12, 13, 14, 15]
        calls += [2, 16, 1, 2, 0, 4, 3, 5, 6, 7, 8, 9, 10, 11, 12, 13, 14, 15]
        calls += [3, 5, 1, 16, 1, 2, 0, 4, 3, 5, 6, 7, 8, 9, 10, 11, 12, 13, 14, 15]
        calls += [4, 16, 1, 2, 0, 4, 3, 5, 6, 7, 8, 9, 10, 11, 12, 13, 14, 15]
        calls += [16, 0, 1, 3, 2, 4, 5, 6, 7, 8, 9, 10, 11, 12, 13, 14, 15]
        calls += [5, 16, 1, 2, 0, 4, 3, 5, 6, 7, 8, 9, 10, 11, 12, 13, 14, 15]
        calls += [6, 6, 16, 1, 2, 0, 4, 3, 5, 6, 7, 8, 9, 10, 11, 12, 13, 14, 15]
        calls += [7, 5, 16, 1, 2, 0, 4, 3, 5, 6, 7, 8, 9, 10, 11, 12, 13, 14, 15]
        calls += [8, 14, 2, 1, 1, 0, 1, 1, 0, 1, 0, 1, 3, 0, 1, 0]
        expected = [3, 1, 0, 0]
        expected += [19, 0, 0, 16, 1, 3, 0, 4, 2, 5, 6, 7, 8, 9, 10, 11, 12, 13, 14, 15]
        expected += [19, 0, 0, 16, 2, 0, 1, 4, 3, 5, 6, 7, 8, 9, 10, 11, 12, 13, 14, 15]
        expected += [19, 0, 0, 16, 1, 4, 3, 2, 0, 5, 6, 7, 8, 9, 10, 11, 12, 13, 14, 15]
        expected += [19, 0, 0, 16, 1, 3, 4, 0, 2, 5, 6, 7, 8, 9, 10, 11, 12, 13, 14, 15]
        expected += [3, 6, 0, 0]
        expected += [19, 0, 0, 16, 1, 1, 1, 0, 0, 0, 0, 0, 0, 0, 0, 0, 0, 0, 0, 0]
        expected += [3, 0, 0, 0]
        expected += [3, 0, 0, 0]
        self.assertEqual(answers(calls), expected)

    def test_all_refusals_written_out(self):
        calls = [0, 0, 0, 1, 0, 0, 2, 0, 3, 0, 0, 0, 4, 0, 0, 5, 0, 6, 0, 0, 7, 0, 0, 8, 0]
        expected = [3, 0, 0, 0] + [3, -1, 0, 0] * 7 + [4, -6, 0, 1, 0]
        self.assertEqual(answers(calls), expected)

    def test_each_answers_as_if_alone(self):
        rng = random.Random(13)
        for turn in range(10):
            names = list(EACH_CALL)
            rng.shuffle(names)
            calls = []
            expected = []
            for name in names:
                calls += EACH_CALL[name]
                expected += answers(list(EACH_CALL[name]))
            self.assertEqual(answers(calls), expected)

    def test_calls_on_permutations_leave_the_machine(self):
        between = right(16, A) + then(A, A) + back(A) + turned(5, 1, A) + seen(A, A) + order(A) + shape(16, A)
        between += paired(16, A) + back([])
        with_them = split(answers(read(GREAT) + steps(5) + between + write() + text(0, [65] * 9) + between + places()))
        without = split(answers(read(GREAT) + steps(5) + write() + text(0, [65] * 9) + places()))
        self.assertEqual(with_them[11:13] + with_them[22:], without[2:])

    def test_400_calls(self):
        self.assertEqual(answers(order(A) * 400), number_told(6) * 400)
        self.assertEqual(answers(read(MACHINE) * 400), number_told(0) * 400)
        self.assertEqual(answers(write() * 400), number_told(-8) * 400)
        told = split(answers(read(GREAT) + steps(1) * 199 + text(0, [65]) * 199 + places()))
        self.assertEqual(told[-1], split(answers(read(GREAT) + steps(398) + places()))[-1])
        self.assertEqual(len(told), 400)

    def test_rows_that_look_like_calls(self):
        calls = right(2, right(2, STILL)) + right(2, STILL)
        self.assertEqual(answers(calls), [3, 0, 0, 0, 3, 1, 0, 0])
        calls = read(MACHINE) + put(write()) + keys(0, places() + write()) + text(0, [9, 10, 11]) + places()
        expected = [3, 0, 0, 0, 3, -1, 0, 0, 3, -1, 0, 0, 6, 0, 3, 9, 10, 11, 0, 4, 1, 0, 1, 1]
        self.assertEqual(answers(calls), expected)

    def test_very_long_rows(self):
        long_row = [MOST] * 16000
        self.assertEqual(answers(right(16, long_row) + order(A)), [3, 0, 0, 0, 3, 6, 0, 0])
        self.assertEqual(answers(turned(16, 1, long_row) + order(A)), [3, -1, 0, 0, 3, 6, 0, 0])
        self.assertEqual(answers(then(long_row, A) + order(A)), [3, -1, 0, 0, 3, 6, 0, 0])
        self.assertEqual(answers(seen(A, long_row) + order(A)), [3, -1, 0, 0, 3, 6, 0, 0])
        self.assertEqual(answers(read([0] * 16000) + order(A)), [3, -2, 0, 0, 3, 6, 0, 0])
        self.assertEqual(answers(read(MACHINE) + put(long_row) + order(A))[4:], [3, -1, 0, 0, 3, 6, 0, 0])
        self.assertEqual(answers(read(MACHINE) + text(0, [65] * 16000) + order(A))[4:], [3, -2, 0, 0, 3, 6, 0, 0])
        self.assertEqual(answers(read(MACHINE) + keys(0, long_row) + order(A))[4:], [3, -1, 0, 0, 3, 6, 0, 0])
        self.assertEqual(answers(read(MACHINE) + boards(0, [1] * 15999) + order(A))[4:], [3, -1, 0, 0, 3, 6, 0, 0])
        for call in (back, order):
            self.assertEqual(answers(call(list(range(16000))) + order(A)), [3, -1, 0, 0, 3, 6, 0, 0])
        for call in (shape, paired):
            self.assertEqual(answers(call(16, list(range(16000))) + order(A)), [3, -1, 0, 0, 3, 6, 0, 0])


class WhatIsHandedIn(unittest.TestCase):
    def test_it_is_not_changed(self):
        for name, calls in EACH_CALL.items():
            with self.subTest(name=name):
                handed = Unchanging(calls)
                answers(handed)
                self.assertEqual(list(handed), calls)

    def test_a_plain_list_is_the_same_afterwards(self):
        for name, calls in EACH_CALL.items():
            with self.subTest(name=name):
                handed = list(calls)
                answers(handed)
                self.assertEqual(handed, calls)

    def test_what_is_given_back_is_another_list(self):
        calls = back(A)
        told = answers(calls)
        told.clear()
        self.assertEqual(calls, back(A))
        self.assertEqual(answers(calls), [19, 0, 0, 16, 2, 0, 1, 4, 3] + list(range(5, 16)))

    def test_long_lists_of_many_machines_are_the_same_afterwards(self):
        rng = random.Random(36)
        for turn in range(20):
            calls = []
            for part in range(10):
                n = rng.choice((2, 3, 8, 16))
                calls += read(some_machine(rng, n, rng.randrange(5), rng.randrange(2))) + steps(rng.randrange(100))
                calls += text(rng.randrange(3), [rng.randrange(256) for i in range(30)]) + perm(rng.randrange(100))
                calls += put([rng.randrange(n) for w in range(rng.randrange(5))]) + period(rng.randrange(2002))
                l = [rng.randrange(1, 9), rng.randrange(n), rng.randrange(n)]
                calls += keys(rng.randrange(3), l) + boards(rng.randrange(3), l) + write() + places()
            handed = Unchanging(calls)
            first = answers(handed)
            self.assertEqual(list(handed), calls)
            self.assertEqual(answers(handed), first)
            self.assertEqual(answers(calls), first)


class EachTimeIsTheFirst(unittest.TestCase):
    def test_a_second_time_gives_the_same(self):
        for name, calls in EACH_CALL.items():
            with self.subTest(name=name):
                self.assertEqual(answers(calls), answers(calls))

    def test_whatever_was_called_between(self):
        first = {name: answers(calls) for name, calls in EACH_CALL.items()}
        for name in reversed(list(EACH_CALL)):
            with self.subTest(name=name):
                self.assertEqual(answers(EACH_CALL[name]), first[name])

    def test_whole_numbers_only(self):
        for name, calls in EACH_CALL.items():
            told = answers(calls)
            self.assertIs(type(told), list)
            for number in told:
                with self.subTest(name=name):
                    self.assertIs(type(number), int)

    def test_nothing_is_printed_or_imported(self):
        modules = dict(sys.modules)
        printed = io.StringIO()
        with contextlib.redirect_stdout(printed), contextlib.redirect_stderr(printed):
            for calls in EACH_CALL.values():
                answers(calls)
        self.assertEqual(printed.getvalue(), "")
        self.assertEqual(set(sys.modules), set(modules))

    def test_nothing_is_nested_deep(self):
        depth = sys.getrecursionlimit()
        sys.setrecursionlimit(200)
        try:
            answers(order(rounds_of(16)) * 400)
            answers(right(16, [0] * 16000))
            answers(read(GREAT) + steps(10000) + perm(10000) + text(0, [65] * 1024) + period(2000) + write())
            answers(read(machine(16, [wheel(16)] * 3, 1)) + keys(0, [64, 1, 1] * 12))
            answers(read(machine(16, [], 1)) + boards(0, [1, 1, 1, 1, 2, 2, 1, 3, 3, 1, 4, 4]))
            answers(write() * 400)
            answers(put([0] * 16000) + text(0, [0] * 16))
        finally:
            sys.setrecursionlimit(depth)


class Permutations(unittest.TestCase):
    def test_products_are_those_of_permutations(self):
        rng = random.Random(14)
        for turn in range(20):
            a, b, c = [some_permutation(rng, 16) for i in range(3)]
            a_b = answers(then(a, b))[4:]
            b_c = answers(then(b, c))[4:]
            self.assertEqual(answers(then(a_b, c)), answers(then(a, b_c)))
            self.assertEqual(answers(back(a_b)), answers(then(answers(back(b))[4:], answers(back(a))[4:])))

    def test_what_is_turned_or_seen_through_another_has_the_same_order(self):
        rng = random.Random(15)
        for turn in range(20):
            a, b = [some_permutation(rng, 16) for i in range(2)]
            self.assertEqual(answers(order(answers(seen(a, b))[4:])), answers(order(a)))
            self.assertEqual(answers(order(answers(turned(16, turn, a))[4:])), answers(order(a)))


if __name__ == "__main__":
    unittest.main()
