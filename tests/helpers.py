"""How the tests write calls and permutations."""

MOST = 18446744073709551615
STILL = list(range(16))

# Each of these is no permutation of 16 letters, and so of no fewer letters either.
NEVER_PERMUTATIONS = {
    "empty": [],
    "one number": [0],
    "15 numbers": list(range(15)),
    "17 numbers": list(range(17)),
    "17 numbers, the last one twice": list(range(16)) + [15],
    "0 twice": [0, 0] + list(range(2, 16)),
    "15 twice": list(range(14)) + [15, 15],
    "all 0": [0] * 16,
    "16 in it": list(range(15)) + [16],
    "16 in it, at its beginning": [16] + list(range(1, 16)),
    "numbers from 1 on": list(range(1, 17)),
    "the greatest number in it": list(range(15)) + [MOST],
    "all the greatest number": [MOST] * 16,
    "a permutation twice over": STILL + STILL,
    "very long": [i % 16 for i in range(7000)],
    "very long, of one number": [0] * 7000,
    "very long, of the greatest number": [MOST] * 7000,
}

NO_COUNTS_OF_LETTERS = (0, 1, 17, 18, 32, 255, 256, MOST - 1, MOST)


def rounds(*letters_of_rounds):
    """The permutation that goes round in each of these, and moves nothing else."""
    a = list(STILL)
    for letters in letters_of_rounds:
        for i, letter in enumerate(letters):
            a[letter] = letters[(i + 1) % len(letters)]
    return a


def rounds_of(*lengths):
    """A permutation with rounds of these lengths, one behind another from letter 0 on."""
    start = 0
    parts = []
    for length in lengths:
        parts.append(list(range(start, start + length)))
        start += length
    return rounds(*parts)


def some_permutation(rng, n):
    """A permutation of n letters that rng chooses."""
    a = list(range(n))
    rng.shuffle(a)
    return a + list(range(n, 16))


def row(numbers):
    return [len(numbers)] + list(numbers)


def right(n, a):
    return [0, n] + row(a)


def then(a, b):
    return [1] + row(a) + row(b)


def back(a):
    return [2] + row(a)


def turned(n, k, a):
    return [3, n, k] + row(a)


def seen(a, b):
    return [4] + row(a) + row(b)


def order(a):
    return [5] + row(a)


def shape(n, a):
    return [6, n] + row(a)


def paired(n, a):
    return [7, n] + row(a)


def read(s):
    return [8] + row(s)


def number_told(number):
    """The whole answer that's a number and nothing else: a refusal too."""
    return [3, number, 0, 0]


def list_told(numbers):
    """The whole answer that's 0 and sixteen numbers."""
    assert len(numbers) == 16
    return [19, 0, 0, 16] + list(numbers)


def fault_told(place):
    """The whole answer of read to bytes with a fault."""
    return [4, -6, 0, 1, place]
