"""How the tests write calls, permutations and machines, and what the words say of machines, done letter by letter."""

import itertools

MOST = 18446744073709551615
STILL = list(range(16))

# Each of these is no permutation of 16 letters, and so of no fewer letters either.
NEVER_PERMUTATIONS = {
    "empty": [],
    "one number": [0],
    "15 numbers": list(range(15)),
    "17 numbers": list(range(17)),
    "17 numbers, the last one twice": list(range(16)) + [15],
    "0 twice": [0, 0] + list(range(2, 16)),
    "15 twice": list(range(14)) + [15, 15],
    "all 0": [0] * 16,
    "16 in it": list(range(15)) + [16],
    "16 in it, at its beginning": [16] + list(range(1, 16)),
    "numbers from 1 on": list(range(1, 17)),
    "the greatest number in it": list(range(15)) + [MOST],
    "all the greatest number": [MOST] * 16,
    "a permutation twice over": STILL + STILL,
    "very long": [i % 16 for i in range(7000)],
    "very long, of one number": [0] * 7000,
    "very long, of the greatest number": [MOST] * 7000,
}

NO_COUNTS_OF_LETTERS = (0, 1, 17, 18, 32, 255, 256, MOST - 1, MOST)


def rounds(*letters_of_rounds):
    """The permutation that goes round in each of these, and moves nothing else."""
    a = list(STILL)
    for letters in letters_of_rounds:
        for i, letter in enumerate(letters):
            a[letter] = letters[(i + 1) % len(letters)]
    return a


def rounds_of(*lengths):
    """A permutation with rounds of these lengths, one behind another from letter 0 on."""
    start = 0
    parts = []
    for length in lengths:
        parts.append(list(range(start, start + length)))
        start += length
    return rounds(*parts)


def some_permutation(rng, n):
    """A permutation of n letters that rng chooses."""
    a = list(range(n))
    rng.shuffle(a)
    return a + list(range(n, 16))


def row(numbers):
    return [len(numbers)] + list(numbers)


def right(n, a):
    return [0, n] + row(a)


def then(a, b):
    return [1] + row(a) + row(b)


def back(a):
    return [2] + row(a)


def turned(n, k, a):
    return [3, n, k] + row(a)


def seen(a, b):
    return [4] + row(a) + row(b)


def order(a):
    return [5] + row(a)


def shape(n, a):
    return [6, n] + row(a)


def paired(n, a):
    return [7, n] + row(a)


def read(s):
    return [8] + row(s)


def write():
    return [9]


def places():
    return [10]


def put(p):
    return [11] + row(p)


def steps(k):
    return [12, k]


def perm(k):
    return [13, k]


def text(undo, s):
    return [14, undo] + row(s)


def period(most):
    return [15, most]


def keys(start, l):
    return [16, start] + row(l)


def boards(start, l):
    return [17, start] + row(l)


def number_told(number):
    """The whole answer that's a number and nothing else: a refusal too."""
    return [3, number, 0, 0]


def list_told(numbers):
    """The whole answer that's 0 and sixteen numbers."""
    assert len(numbers) == 16
    return [19, 0, 0, 16] + list(numbers)


def numbers_told(number, numbers):
    """The whole answer that's a number and a list."""
    return [3 + len(numbers), number, 0, len(numbers)] + list(numbers)


def bytes_told(number, s):
    """The whole answer that's a number and bytes."""
    return [3 + len(s), number, len(s)] + list(s) + [0]


def fault_told(place):
    """The whole answer of read to bytes with a fault."""
    return [4, -6, 0, 1, place]


def split(told):
    """The answers in a list of them, each by itself."""
    result = []
    while told:
        result.append(told[1:1 + told[0]])
        told = told[1 + told[0]:]
    return result


def joined(rows):
    """The numbers of all rows, one behind another."""
    return [number for one in rows for number in one]


def wheel(n, kind=1, ring=0, stand=0, notches=0, wires=None):
    """A wheel's bytes; bit i of notches is letter i's."""
    return [kind, ring, stand, notches % 256, notches // 256] + list(wires if wires is not None else range(n))


def machine(n, wheels=(), sends_back=0, first=None, last=None):
    """A machine's bytes."""
    s = [n, len(wheels), sends_back]
    s += list(first if first is not None else range(n))
    s += list(last if last is not None else range(n))
    for one in wheels:
        s += one
    return s


def some_machine(rng, n, how_many, sends_back):
    """The bytes of a machine that rng chooses."""
    wheels = []
    for number in range(how_many):
        kind = rng.randrange(2 if number == 0 else 4)
        notches = rng.choice((0, 1 << rng.randrange(n), rng.randrange(1 << n)))
        wheels.append(wheel(n, kind, rng.randrange(n), rng.randrange(n), notches, rng.sample(range(n), n)))
    return machine(n, wheels, sends_back, rng.sample(range(n), n), rng.sample(range(n), n))


class PlainMachine:
    """A machine as the words tell it, with nothing worked out beforehand."""

    def __init__(self, s):
        self.n, how_many, sends_back = s[:3]
        self.sends_back = sends_back == 1
        self.first = s[3:3 + self.n]
        self.last = s[3 + self.n:3 + 2 * self.n]
        self.wheels = []
        self.stands = []
        for number in range(how_many):
            start = 3 + 2 * self.n + number * (5 + self.n)
            kind, ring, stand, lower, upper = s[start:start + 5]
            notches = [i for i in range(16) if ((lower + 256 * upper) >> i) & 1]
            self.wheels.append((kind, ring, notches, s[start + 5:start + 5 + self.n]))
            self.stands.append(stand)

    def step(self):
        before = list(self.stands)
        for number, (kind, ring, notches, wires) in enumerate(self.wheels):
            at_own = before[number] in notches
            neighbour = number > 0 and before[number - 1] in self.wheels[number - 1][2]
            if kind == 1 or kind == 2 and neighbour or kind == 3 and (neighbour or at_own):
                self.stands[number] = (before[number] + 1) % self.n

    def through_wheel(self, number, x):
        kind, ring, notches, wires = self.wheels[number]
        d = self.stands[number] - ring
        return (wires[(x + d) % self.n] - d) % self.n

    def back_through_wheel(self, number, x):
        return [y for y in range(self.n) if self.through_wheel(number, y) == x][0]

    def becomes(self, x):
        x = self.first[x]
        for number in range(len(self.wheels)):
            x = self.through_wheel(number, x)
        x = self.last[x]
        if self.sends_back:
            for number in reversed(range(len(self.wheels))):
                x = self.back_through_wheel(number, x)
            x = self.first.index(x)
        return x

    def permutation(self):
        return [self.becomes(x) for x in range(self.n)] + list(range(self.n, 16))

    def written(self, undo, s):
        result = []
        for byte in s:
            if 65 <= byte < 65 + self.n:
                self.step()
                a = self.permutation()
                byte = 65 + (a.index(byte - 65) if undo else a[byte - 65])
            result.append(byte)
        return result

    def is_so(self, l):
        """Whether from how the wheels stand all that l tells is so."""
        was = list(self.stands)
        so = True
        for place in range(0, len(l), 3):
            self.stands = list(was)
            for turn in range(l[place]):
                self.step()
            so = so and self.becomes(l[place + 1]) == l[place + 2]
        self.stands = was
        return so


def plain_keys(s, l):
    """All stands that l allows, found by trying all of them."""
    plain = PlainMachine(s)
    found = []
    for backward in itertools.product(range(plain.n), repeat=len(plain.wheels)):
        plain.stands = list(reversed(backward))
        if plain.is_so(l):
            found.append(list(plain.stands))
    return found


def exchanging_boards(n):
    """All boards of n letters that exchange letters."""
    found = [[]]
    for letter in range(n):
        found = [board + [other] for board in found for other in range(n)
                 if (board[other] == letter if other < letter else letter not in board)]
    return [board for board in found if all(board[board[i]] == i for i in range(n))]


def plain_boards(s, l):
    """All rows of boards that l allows, found by trying all boards."""
    plain = PlainMachine(s)
    told_of = l[1::3] + l[2::3]
    found = []
    for board in exchanging_boards(plain.n):
        plain.first = board
        if plain.is_so(l):
            shown = [other if i in told_of or other in told_of else 255 for i, other in enumerate(board)]
            if shown not in found:
                found.append(shown)
    return sorted(found)
