"""Machines of wired wheels: how they step, what letters become in them, when their wheels come round."""

from wheelwriters.permutations import MOST_LETTERS, inverse, product, seen_through
from wheelwriters.wheels import followers, stands_of

# The byte that is letter 0 in a text.
BYTE_OF_LETTER_0 = 65


class Machine:
    """A machine of so many letters; its boards and its wheels' wires are permutations of these.

    Its number is that of how the wheels stand now.
    """

    def __init__(self, letters, sends_back, first_board, last_board, wheels, number):
        self.letters = letters
        self.sends_back = sends_back
        self.first_board = first_board
        self.last_board = last_board
        self.wheels = wheels
        self.number = number
        # At most 65536 numbers, and then each step that's ever done is one look at them.
        self.followers = followers(letters, wheels)


def stands_now(machine):
    """The wheels' stands."""
    return stands_of(machine.letters, len(machine.wheels), machine.number)


def number_after(machine, steps):
    """The number of how the wheels would stand after so many steps."""
    number = machine.number
    for step in range(steps):
        number = machine.followers[number]
    return number


def through_wheels(machine, number):
    """What all wheels do on the way to the last board, as a permutation, where they stand as number says."""
    result = list(range(MOST_LETTERS))
    for wheel, stand in zip(machine.wheels, stands_of(machine.letters, len(machine.wheels), number)):
        result = product(result, wheel.wires_by_stand[stand])
    return result


def setting(machine, number):
    """The machine as a permutation, where its wheels stand as number says."""
    way_in = product(machine.first_board, through_wheels(machine, number))
    if machine.sends_back:
        return seen_through(machine.last_board, way_in)
    return product(way_in, machine.last_board)


def is_letter(machine, byte):
    """True if the byte of a text is one of the machine's letters."""
    return BYTE_OF_LETTER_0 <= byte < BYTE_OF_LETTER_0 + machine.letters


def letters_in(machine, s):
    """How many of the bytes s are the machine's letters."""
    return len([byte for byte in s if is_letter(machine, byte)])


def letter_through(machine, undo, letter):
    """What the letter becomes as the wheels stand now, or, if undo, the letter that becomes it."""
    now = setting(machine, machine.number)
    return inverse(now)[letter] if undo else now[letter]


def text_through(machine, undo, s):
    """What the bytes s become, or, if undo, were; afterwards the wheels stand where they've come to."""
    result = []
    for byte in s:
        if is_letter(machine, byte):
            machine.number = machine.followers[machine.number]
            result.append(BYTE_OF_LETTER_0 + letter_through(machine, undo, byte - BYTE_OF_LETTER_0))
        else:
            result.append(byte)
    return result


def period(machine, most):
    """After how many steps the wheels first stand as they'll stand again, and how many it is from there till they do.

    None if both together are more than most.
    """
    met = {}
    number = machine.number
    for steps in range(most + 1):
        if number in met:
            return [met[number], steps - met[number]]
        met[number] = steps
        number = machine.followers[number]
    return None
