"""The calls on one machine, handed in and answered as lists of whole numbers."""

from wheelwriters.machines import Fault, machine_from
from wheelwriters.permutations import MOST_LETTERS, goes_by_pairs, inverse, is_permutation
from wheelwriters.permutations import order, product, seen_through, shape, turned

NOT_AS_SAID = -1
TOO_MUCH = -2
NO_MACHINE = -6

MOST_BYTES_READ = 256


class Line:
    """A list of calls, how far it has been taken, and the machine that they are about."""

    def __init__(self, calls):
        self.calls = calls
        self.taken = 0
        self.machine = None

    def has_more(self):
        """True if numbers are left to take."""
        return self.taken < len(self.calls)

    def take_number(self):
        """The next number."""
        number = self.calls[self.taken]
        self.taken += 1
        return number

    def take_row(self):
        """The next row, as a copy; how many numbers it has stands before it."""
        size = self.take_number()
        start = self.taken
        self.taken += size
        return self.calls[start:self.taken]


def told(number, numbers):
    """An answer that tells no bytes."""
    return [number, 0, len(numbers)] + numbers


def are_permutations(a, b):
    """True if both are permutations of 16 letters."""
    return is_permutation(MOST_LETTERS, a) and is_permutation(MOST_LETTERS, b)


def answer_right(line):
    """1 if a is a permutation of n letters, else 0."""
    n = line.take_number()
    a = line.take_row()
    return told(1 if is_permutation(n, a) else 0, [])


def answer_then(line):
    """First a, then b."""
    a = line.take_row()
    b = line.take_row()
    if not are_permutations(a, b):
        return told(NOT_AS_SAID, [])
    return told(0, product(a, b))


def answer_back(line):
    """What undoes a."""
    a = line.take_row()
    if not is_permutation(MOST_LETTERS, a):
        return told(NOT_AS_SAID, [])
    return told(0, inverse(a))


def answer_turned(line):
    """a turned by k of n letters."""
    n = line.take_number()
    k = line.take_number()
    a = line.take_row()
    if not is_permutation(n, a):
        return told(NOT_AS_SAID, [])
    return told(0, turned(n, k, a))


def answer_seen(line):
    """a seen through b."""
    a = line.take_row()
    b = line.take_row()
    if not are_permutations(a, b):
        return told(NOT_AS_SAID, [])
    return told(0, seen_through(a, b))


def answer_order(line):
    """How often a has to be done till nothing has moved."""
    a = line.take_row()
    if not is_permutation(MOST_LETTERS, a):
        return told(NOT_AS_SAID, [])
    return told(order(a), [])


def answer_shape(line):
    """How many rounds of each length a has."""
    n = line.take_number()
    a = line.take_row()
    if not is_permutation(n, a):
        return told(NOT_AS_SAID, [])
    return told(0, shape(n, a))


def answer_paired(line):
    """1 if all n letters go by pairs, else 0."""
    n = line.take_number()
    a = line.take_row()
    if not is_permutation(n, a):
        return told(NOT_AS_SAID, [])
    return told(1 if goes_by_pairs(n, a) else 0, [])


def answer_read(line):
    """Has the line's machine be the one that s tells, if s tells one."""
    s = line.take_row()
    if len(s) > MOST_BYTES_READ:
        return told(TOO_MUCH, [])
    try:
        line.machine = machine_from(s)
    except Fault as e:
        return told(NO_MACHINE, [e.place])
    return told(0, [])


# A call's number is its place here.
CALLS = (
    answer_right,
    answer_then,
    answer_back,
    answer_turned,
    answer_seen,
    answer_order,
    answer_shape,
    answer_paired,
    answer_read,
)


def answers(calls):
    """What each of the calls answers, in order: how many numbers are answered, then these."""
    line = Line(calls)
    result = []
    while line.has_more():
        answer = CALLS[line.take_number()](line)
        result.append(len(answer))
        result.extend(answer)
    return result
