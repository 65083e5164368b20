"""Permutations of n letters: lists of 16 numbers, place i has where letter i goes."""

LEAST_LETTERS = 2
MOST_LETTERS = 16


def is_permutation(n, a):
    """True if n is 2 to 16 and a a permutation of n letters."""
    if n < LEAST_LETTERS or n > MOST_LETTERS or len(a) != MOST_LETTERS:
        return False
    return sorted(a[:n]) == list(range(n)) and a[n:] == list(range(n, MOST_LETTERS))


def product(a, b):
    """First a, then b."""
    return [b[letter] for letter in a]


def inverse(a):
    """What undoes a."""
    result = [0] * MOST_LETTERS
    for place, letter in enumerate(a):
        result[letter] = place
    return result


def turned(n, k, a):
    """a turned by k of n letters."""
    below_n = [(a[(letter + k) % n] - k) % n for letter in range(n)]
    return below_n + a[n:]


def seen_through(a, b):
    """First b, then a, then what undoes b."""
    return product(product(b, a), inverse(b))


def round_lengths(n, a):
    """How many letters each round of a has, of the rounds of letters below n."""
    lengths = []
    met = [False] * n
    for start in range(n):
        length = 0
        letter = start
        while not met[letter]:
            met[letter] = True
            letter = a[letter]
            length += 1
        if length > 0:
            lengths.append(length)
    return lengths


def least_common_multiple(a, b):
    """The least number above 0 that both a and b divide."""
    multiple = a
    while multiple % b != 0:
        multiple += a
    return multiple


def order(a):
    """How often a has to be done till nothing has moved, at least 1."""
    times = 1
    for length in round_lengths(MOST_LETTERS, a):
        times = least_common_multiple(times, length)
    return times


def shape(n, a):
    """Place j: how many rounds of a have j + 1 letters, of the rounds of letters below n."""
    counts = [0] * MOST_LETTERS
    for length in round_lengths(n, a):
        counts[length - 1] += 1
    return counts


def goes_by_pairs(n, a):
    """True if a has each letter below n go to another one that goes to it."""
    return all([length == 2 for length in round_lengths(n, a)])
