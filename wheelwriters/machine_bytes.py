"""Machines as bytes: how they are read and written."""

from wheelwriters.machines import Machine, stands_now
from wheelwriters.permutations import LEAST_LETTERS, MOST_LETTERS
from wheelwriters.wheels import ALWAYS_MOVES, MOVES_WITH_NEIGHBOUR_OR_ITSELF, Wheel, number_of

MOST_WHEELS = 4
BYTES_BEFORE_BOARDS = 3
# Of a wheel.
BYTES_BEFORE_STAND = 2
BYTES_BEFORE_NOTCHES = 3
BYTES_BEFORE_WIRES = 5


class Fault(Exception):
    """What tells that bytes are no machine: place is the fault's place."""

    def __init__(self, place):
        self.place = place


def byte_from(s, place, least, most):
    """The byte at place, which is a field by itself: least to most."""
    if place >= len(s):
        raise Fault(len(s))
    if s[place] < least or s[place] > most:
        raise Fault(place)
    return s[place]


def notches_from(s, place, n):
    """The notches in the two bytes from place on, as one number."""
    # A field that isn't whole is told by where the bytes end, even if its one byte is wrong too.
    if place + 2 > len(s):
        raise Fault(len(s))
    notches = s[place] + 256 * s[place + 1]
    if notches >> n != 0:
        raise Fault(place)
    return notches


def permutation_from(s, place, n):
    """The permutation in the n bytes from place on."""
    letters = []
    for i in range(n):
        letter = byte_from(s, place + i, 0, n - 1)
        if letter in letters:
            raise Fault(place + i)
        letters.append(letter)
    return letters + list(range(n, MOST_LETTERS))


def wheel_from(s, place, n, most_kind):
    """The wheel in the bytes from place on."""
    kind = byte_from(s, place, 0, most_kind)
    ring = byte_from(s, place + 1, 0, n - 1)
    # The stand is only looked at for a fault: the machine keeps all stands, as one number.
    byte_from(s, place + BYTES_BEFORE_STAND, 0, n - 1)
    notches = notches_from(s, place + BYTES_BEFORE_NOTCHES, n)
    wires = permutation_from(s, place + BYTES_BEFORE_WIRES, n)
    return Wheel(n, kind, ring, notches, wires)


def wheels_from(s, place, n, how_many):
    """So many wheels, which are all that the bytes from place on may tell."""
    wheels = []
    for number in range(how_many):
        # No wheel stands before wheel 0, so none of the kinds that ask for one is its.
        most_kind = ALWAYS_MOVES if number == 0 else MOVES_WITH_NEIGHBOUR_OR_ITSELF
        wheels.append(wheel_from(s, place, n, most_kind))
        place += BYTES_BEFORE_WIRES + n
    if place < len(s):
        raise Fault(place)
    return wheels


def stands_from(s, place, n):
    """The stands of the wheels that the bytes from place on tell, in which no fault is left."""
    return [s[stand] for stand in range(place + BYTES_BEFORE_STAND, len(s), BYTES_BEFORE_WIRES + n)]


def machine_from(s):
    """The machine that the bytes s tell; Fault is raised if they're no machine."""
    n = byte_from(s, 0, LEAST_LETTERS, MOST_LETTERS)
    how_many = byte_from(s, 1, 0, MOST_WHEELS)
    sends_back = byte_from(s, 2, 0, 1) == 1
    first_board = permutation_from(s, BYTES_BEFORE_BOARDS, n)
    last_board = permutation_from(s, BYTES_BEFORE_BOARDS + n, n)
    start = BYTES_BEFORE_BOARDS + 2 * n
    wheels = wheels_from(s, start, n, how_many)
    return Machine(n, sends_back, first_board, last_board, wheels, number_of(n, stands_from(s, start, n)))


def bytes_of(machine):
    """The bytes that tell the machine as its wheels stand now."""
    n = machine.letters
    s = [n, len(machine.wheels), 1 if machine.sends_back else 0]
    s.extend(machine.first_board[:n])
    s.extend(machine.last_board[:n])
    for wheel, stand in zip(machine.wheels, stands_now(machine)):
        s.extend([wheel.kind, wheel.ring, stand, wheel.notches % 256, wheel.notches // 256])
        s.extend(wheel.wires[:n])
    return s
