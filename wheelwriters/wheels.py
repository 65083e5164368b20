"""Wheels, how they step, and how all wheels of a machine stand, as one number."""

from wheelwriters.permutations import turned

# The kinds of wheels that move; one of kind 0 never does.
ALWAYS_MOVES = 1
MOVES_WITH_NEIGHBOUR = 2
MOVES_WITH_NEIGHBOUR_OR_ITSELF = 3


class Wheel:
    """A wheel of n letters: bit i of its notches is 1 if it has one at letter i."""

    def __init__(self, n, kind, ring, notches, wires):
        self.kind = kind
        self.ring = ring
        self.notches = notches
        self.wires = wires
        # At place i the wires as a letter meets them while the wheel stands at i: texts need them with each letter.
        self.wires_by_stand = [turned(n, stand - ring, wires) for stand in range(n)]


def has_notch(wheel, letter):
    """True if the wheel has a notch at letter."""
    return (wheel.notches >> letter) & 1 == 1


def moves(wheel, stand, nudged):
    """True if a step moves the wheel; nudged: whether the wheel before it stands at one of that wheel's notches."""
    if wheel.kind == ALWAYS_MOVES:
        return True
    if wheel.kind == MOVES_WITH_NEIGHBOUR:
        return nudged
    if wheel.kind == MOVES_WITH_NEIGHBOUR_OR_ITSELF:
        return nudged or has_notch(wheel, stand)
    return False


def stand_after(n, wheel, stand, nudged):
    """Where the wheel stands after a step."""
    return (stand + 1) % n if moves(wheel, stand, nudged) else stand


def number_of(n, stands):
    """The number of these stands: wheel 0's, plus n times wheel 1's, plus n n times wheel 2's, and so on."""
    number = 0
    for stand in reversed(stands):
        number = number * n + stand
    return number


def stands_of(n, how_many, number):
    """The stands of so many wheels that have this number."""
    stands = []
    for wheel in range(how_many):
        stands.append(number % n)
        number //= n
    return stands


def followers(n, wheels):
    """Place i: the number of the stands that a step makes of those of number i, for all stands."""
    # It grows by a wheel at a time: the stands of the wheels so far come again for each stand of the one behind them.
    numbers = [0]
    nudged = [False]
    for wheel in wheels:
        so_far = len(numbers)
        grown = []
        grown_nudged = []
        for stand in range(n):
            alone = so_far * stand_after(n, wheel, stand, False)
            pushed = so_far * stand_after(n, wheel, stand, True)
            grown.extend([number + (pushed if nudge else alone) for number, nudge in zip(numbers, nudged)])
            grown_nudged.extend([has_notch(wheel, stand)] * so_far)
        numbers = grown
        nudged = grown_nudged
    return numbers
