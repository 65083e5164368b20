"""The calls on one machine, handed in and answered as lists of whole numbers."""

from wheelwriters.known import allowed_boards, allowed_stands, is_known, known_from, letters_told
from wheelwriters.machine_bytes import Fault, bytes_of, machine_from
from wheelwriters.machines import letters_in, number_after, period, setting, stands_now, text_through
from wheelwriters.permutations import MOST_LETTERS, goes_by_pairs, inverse, is_permutation
from wheelwriters.permutations import order, product, seen_through, shape, turned
from wheelwriters.wheels import number_of, stands_of

NOT_AS_SAID = -1
TOO_MUCH = -2
DOES_NOT_SEND_BACK = -5
NOT_A_MACHINE = -6
NO_MACHINE_YET = -8

MOST_BYTES_READ = 256
MOST_STEPS_DONE = 10000
MOST_BYTES_OF_TEXT = 1024
MOST_OF_PERIOD = 2000
MOST_STANDS_TRIED = 4096
MOST_LETTERS_TOLD = 4
MOST_TOLD_AT_ONCE = 50


class NoMachineYet(Exception):
    """What tells that a call is about a machine and there's none."""


class Line:
    """A list of calls, how far it has been taken, and the machine that they are about."""

    def __init__(self, calls):
        self.calls = calls
        self.taken = 0
        self.machine = None

    def has_more(self):
        """True if numbers are left to take."""
        return self.taken < len(self.calls)

    def take_number(self):
        """The next number."""
        number = self.calls[self.taken]
        self.taken += 1
        return number

    def take_row(self):
        """The next row, as a copy; how many numbers it has stands before it."""
        size = self.take_number()
        start = self.taken
        self.taken += size
        return self.calls[start:self.taken]

    def machine_there(self):
        """The machine; it's asked for when a call has been taken whole, so that the next one is found."""
        if self.machine is None:
            raise NoMachineYet()
        return self.machine


def told(number, numbers):
    """An answer that tells no bytes."""
    return [number, 0, len(numbers)] + numbers


def told_bytes(number, s):
    """An answer that tells bytes and no list."""
    return [number, len(s)] + s + [0]


def are_permutations(a, b):
    """True if both are permutations of 16 letters."""
    return is_permutation(MOST_LETTERS, a) and is_permutation(MOST_LETTERS, b)


def answer_right(line):
    """1 if a is a permutation of n letters, else 0."""
    n = line.take_number()
    a = line.take_row()
    return told(1 if is_permutation(n, a) else 0, [])


def answer_then(line):
    """First a, then b."""
    a = line.take_row()
    b = line.take_row()
    if not are_permutations(a, b):
        return told(NOT_AS_SAID, [])
    return told(0, product(a, b))


def answer_back(line):
    """What undoes a."""
    a = line.take_row()
    if not is_permutation(MOST_LETTERS, a):
        return told(NOT_AS_SAID, [])
    return told(0, inverse(a))


def answer_turned(line):
    """a turned by k of n letters."""
    n = line.take_number()
    k = line.take_number()
    a = line.take_row()
    if not is_permutation(n, a):
        return told(NOT_AS_SAID, [])
    return told(0, turned(n, k, a))


def answer_seen(line):
    """a seen through b."""
    a = line.take_row()
    b = line.take_row()
    if not are_permutations(a, b):
        return told(NOT_AS_SAID, [])
    return told(0, seen_through(a, b))


def answer_order(line):
    """How often a has to be done till nothing has moved."""
    a = line.take_row()
    if not is_permutation(MOST_LETTERS, a):
        return told(NOT_AS_SAID, [])
    return told(order(a), [])


def answer_shape(line):
    """How many rounds of each length a has."""
    n = line.take_number()
    a = line.take_row()
    if not is_permutation(n, a):
        return told(NOT_AS_SAID, [])
    return told(0, shape(n, a))


def answer_paired(line):
    """1 if all n letters go by pairs, else 0."""
    n = line.take_number()
    a = line.take_row()
    if not is_permutation(n, a):
        return told(NOT_AS_SAID, [])
    return told(1 if goes_by_pairs(n, a) else 0, [])


def answer_read(line):
    """Has the line's machine be the one that s tells, if s tells one."""
    s = line.take_row()
    if len(s) > MOST_BYTES_READ:
        return told(TOO_MUCH, [])
    try:
        line.machine = machine_from(s)
    except Fault as e:
        return told(NOT_A_MACHINE, [e.place])
    return told(0, [])


def answer_write(line):
    """The machine's bytes."""
    s = bytes_of(line.machine_there())
    return told_bytes(len(s), s)


def answer_places(line):
    """The wheels' stands."""
    machine = line.machine_there()
    return told(len(machine.wheels), stands_now(machine))


def answer_put(line):
    """Has the wheels stand as p says."""
    p = line.take_row()
    machine = line.machine_there()
    if len(p) != len(machine.wheels) or any([stand >= machine.letters for stand in p]):
        return told(NOT_AS_SAID, [])
    machine.number = number_of(machine.letters, p)
    return told(0, [])


def answer_steps(line):
    """Has the machine step k times."""
    k = line.take_number()
    machine = line.machine_there()
    if k > MOST_STEPS_DONE:
        return told(TOO_MUCH, [])
    machine.number = number_after(machine, k)
    return told(0, [])


def answer_perm(line):
    """The machine as a permutation, as it would be after k steps."""
    k = line.take_number()
    machine = line.machine_there()
    if k > MOST_STEPS_DONE:
        return told(TOO_MUCH, [])
    return told(0, setting(machine, number_after(machine, k)))


def answer_text(line):
    """Writes the text s, or undoes it."""
    undo = line.take_number()
    s = line.take_row()
    machine = line.machine_there()
    if len(s) > MOST_BYTES_OF_TEXT:
        return told(TOO_MUCH, [])
    if undo > 1:
        return told(NOT_AS_SAID, [])
    return told_bytes(letters_in(machine, s), text_through(machine, undo == 1, s))


def answer_period(line):
    """When the wheels come round, if that's within most steps."""
    most = line.take_number()
    machine = line.machine_there()
    if most > MOST_OF_PERIOD:
        return told(TOO_MUCH, [])
    found = period(machine, most)
    if found is None:
        return told(1, [])
    return told(0, found)


def answer_keys(line):
    """The stands that a known stretch of text allows."""
    start = line.take_number()
    numbers = line.take_row()
    machine = line.machine_there()
    if not is_known(machine.letters, numbers):
        return told(NOT_AS_SAID, [])
    if len(machine.followers) > MOST_STANDS_TRIED:
        return told(TOO_MUCH, [])
    allowed = allowed_stands(machine, known_from(numbers))
    result = []
    for number in allowed[start:start + MOST_TOLD_AT_ONCE]:
        result.extend(stands_of(machine.letters, len(machine.wheels), number))
    return told(len(allowed), result)


def answer_boards(line):
    """The first boards that a known stretch of text allows."""
    start = line.take_number()
    numbers = line.take_row()
    machine = line.machine_there()
    if not is_known(machine.letters, numbers):
        return told(NOT_AS_SAID, [])
    if not machine.sends_back:
        return told(DOES_NOT_SEND_BACK, [])
    known = known_from(numbers)
    if len(letters_told(known)) > MOST_LETTERS_TOLD:
        return told(TOO_MUCH, [])
    allowed = allowed_boards(machine, known)
    result = []
    for board in allowed[start:start + MOST_TOLD_AT_ONCE]:
        result.extend(board)
    return told(len(allowed), result)


# A call's number is its place here.
CALLS = (
    answer_right,
    answer_then,
    answer_back,
    answer_turned,
    answer_seen,
    answer_order,
    answer_shape,
    answer_paired,
    answer_read,
    answer_write,
    answer_places,
    answer_put,
    answer_steps,
    answer_perm,
    answer_text,
    answer_period,
    answer_keys,
    answer_boards,
)


def answer_next(line):
    """What the line's next call answers."""
    try:
        return CALLS[line.take_number()](line)
    except NoMachineYet:
        return told(NO_MACHINE_YET, [])


def answers(calls):
    """What each of the calls answers, in order: how many numbers are answered, then these."""
    line = Line(calls)
    result = []
    while line.has_more():
        answer = answer_next(line)
        result.append(len(answer))
        result.extend(answer)
    return result
