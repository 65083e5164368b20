"""Machines of wired wheels, and how they are read from bytes."""

from wheelwriters.permutations import LEAST_LETTERS, MOST_LETTERS

MOST_WHEELS = 4
MOST_KIND = 3
# No wheel stands before wheel 0, so none of the kinds that ask for one is its.
MOST_KIND_OF_WHEEL_0 = 1
BYTES_BEFORE_BOARDS = 3
BYTES_BEFORE_WIRES = 5


class Fault(Exception):
    """What tells that bytes are no machine: place is the fault's place."""

    def __init__(self, place):
        self.place = place


class Wheel:
    """A wheel: bit i of its notches is 1 if it has one at letter i."""

    def __init__(self, kind, ring, stand, notches, wires):
        self.kind = kind
        self.ring = ring
        self.stand = stand
        self.notches = notches
        self.wires = wires


class Machine:
    """A machine of so many letters; its boards and its wheels' wires are permutations of these."""

    def __init__(self, letters, sends_back, first_board, last_board, wheels):
        self.letters = letters
        self.sends_back = sends_back
        self.first_board = first_board
        self.last_board = last_board
        self.wheels = wheels


def byte_from(s, place, least, most):
    """The byte at place, which is a field by itself: least to most."""
    if place >= len(s):
        raise Fault(len(s))
    if s[place] < least or s[place] > most:
        raise Fault(place)
    return s[place]


def notches_from(s, place, n):
    """The notches in the two bytes from place on, as one number."""
    # A field that isn't whole is told by where the bytes end, even if its one byte is wrong too.
    if place + 2 > len(s):
        raise Fault(len(s))
    notches = s[place] + 256 * s[place + 1]
    if notches >> n != 0:
        raise Fault(place)
    return notches


def permutation_from(s, place, n):
    """The permutation in the n bytes from place on."""
    letters = []
    for i in range(n):
        letter = byte_from(s, place + i, 0, n - 1)
        if letter in letters:
            raise Fault(place + i)
        letters.append(letter)
    return letters + list(range(n, MOST_LETTERS))


def wheel_from(s, place, n, most_kind):
    """The wheel in the bytes from place on."""
    kind = byte_from(s, place, 0, most_kind)
    ring = byte_from(s, place + 1, 0, n - 1)
    stand = byte_from(s, place + 2, 0, n - 1)
    notches = notches_from(s, place + 3, n)
    wires = permutation_from(s, place + BYTES_BEFORE_WIRES, n)
    return Wheel(kind, ring, stand, notches, wires)


def wheels_from(s, place, n, how_many):
    """So many wheels, which are all that the bytes from place on may tell."""
    wheels = []
    for number in range(how_many):
        most_kind = MOST_KIND_OF_WHEEL_0 if number == 0 else MOST_KIND
        wheels.append(wheel_from(s, place, n, most_kind))
        place += BYTES_BEFORE_WIRES + n
    if place < len(s):
        raise Fault(place)
    return wheels


def machine_from(s):
    """The machine that the bytes s tell; Fault is raised if they're no machine."""
    n = byte_from(s, 0, LEAST_LETTERS, MOST_LETTERS)
    how_many = byte_from(s, 1, 0, MOST_WHEELS)
    sends_back = byte_from(s, 2, 0, 1) == 1
    first_board = permutation_from(s, BYTES_BEFORE_BOARDS, n)
    last_board = permutation_from(s, BYTES_BEFORE_BOARDS + n, n)
    wheels = wheels_from(s, BYTES_BEFORE_BOARDS + 2 * n, n, how_many)
    return Machine(n, sends_back, first_board, last_board, wheels)
