"""What a known stretch of text allows: stands of the wheels, and first boards that exchange letters."""

from wheelwriters.machines import number_after, through_wheels
from wheelwriters.permutations import seen_through

MOST_KNOWN = 12
MOST_STEPS = 64
NOT_TOLD = 255


def is_known(n, numbers):
    """True if the numbers tell what's known, three numbers each: steps, plain, coded."""
    if len(numbers) % 3 != 0 or len(numbers) > 3 * MOST_KNOWN:
        return False
    return all([1 <= steps <= MOST_STEPS and plain < n and coded < n for steps, plain, coded in known_from(numbers)])


def known_from(numbers):
    """What's known, in the order of its steps, as tuples of steps, plain, coded."""
    return sorted([tuple(numbers[place:place + 3]) for place in range(0, len(numbers), 3)])


def letters_told(known):
    """The letters that are plain or coded somewhere, in order, each once."""
    return sorted(set([plain for steps, plain, coded in known] + [coded for steps, plain, coded in known]))


def way_in(machine, letter):
    """Place i: where letter comes before the last board, where the wheels stand as number i says."""
    # As the numbers go, all stands of the wheels so far come again for each stand of the one behind them.
    reached = [machine.first_board[letter]]
    for wheel in machine.wheels:
        grown = []
        for wires in wheel.wires_by_stand:
            grown.extend([wires[one] for one in reached])
        reached = grown
    return reached


def where_so(machine, plain, coded):
    """Place i: whether plain becomes coded, where the wheels stand as number i says."""
    board = machine.last_board
    from_plain = way_in(machine, plain)
    if not machine.sends_back:
        return [board[one] == coded for one in from_plain]
    # The way back to coded is the way in from coded, so both ways in have to meet at the last board.
    from_coded = way_in(machine, coded)
    return [board[one] == other for one, other in zip(from_plain, from_coded)]


def allowed_stands(machine, known):
    """The numbers of all stands from which all that's known is so, in order."""
    starts = list(range(len(machine.followers)))
    reached = list(starts)
    done = 0
    for steps, plain, coded in known:
        for step in range(done, steps):
            reached = [machine.followers[number] for number in reached]
        done = steps
        so = where_so(machine, plain, coded)
        starts = [start for start, number in zip(starts, reached) if so[number]]
        reached = [number for number in reached if so[number]]
    return starts


def behind_first_board(machine, steps):
    """The machine after so many steps without its first board, as a permutation; its last board sends back."""
    return seen_through(machine.last_board, through_wheels(machine, number_after(machine, steps)))


def with_letter_exchanged(boards, letter):
    """Each of these boards in all ways in which letter can be exchanged by it."""
    result = []
    for board in boards:
        if board[letter] != NOT_TOLD:
            result.append(board)
            continue
        for other, exchanged in enumerate(board):
            if exchanged == NOT_TOLD:
                another = list(board)
                another[letter] = other
                another[other] = letter
                result.append(another)
    return result


def fits(board, demands):
    """True if with that board plain becomes coded, for each demand: a permutation behind the board, plain, coded."""
    # The board undoes itself: what comes out at it as coded went into it as coded's exchange.
    return all([behind[board[plain]] == board[coded] for behind, plain, coded in demands])


def allowed_boards(machine, known):
    """All boards with which all that's known is so, in order, NOT_TOLD in each place of which nothing is told."""
    demands = [(behind_first_board(machine, steps), plain, coded) for steps, plain, coded in known]
    boards = [[NOT_TOLD] * machine.letters]
    for letter in letters_told(known):
        # What asks for this letter and none behind it can be asked as soon as this letter's exchange is there.
        due = [demand for demand in demands if max(demand[1], demand[2]) == letter]
        boards = [board for board in with_letter_exchanged(boards, letter) if fits(board, due)]
    return sorted(boards)
