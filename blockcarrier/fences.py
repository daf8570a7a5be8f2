"""Fences: put into a board, all that shut it, those that are spare, and the fewest."""

from blockcarrier.boards import LINE, counts_of_things, deed_can_be, require_board
from blockcarrier.errors import BadCount, BadFence, NotSure
from blockcarrier.races import is_sure

FENCES = ("wait", "clean", "drop")
MOST_FENCES = 30
MOST_DEEDS_SHUT = 5
MOST_SHUTTING = 2


def fenced(board, fences):
    """The board with the fences put in."""
    require_board(board)
    require_fences(board, fences)
    shut = put_in(board, fences)
    require_board(shut)
    return shut


def fully(board):
    """Fences around each start that let nothing come between."""
    require_board(board)
    memory, orders, program = board
    line_count = len(memory) // LINE
    fences = []
    for at, deed in enumerate(program):
        if deed[0] == "start":
            fences.extend([(at, ("clean", line)) for line in range(line_count)])
            fences.append((at + 1, ("wait",)))
            fences.extend([(at + 1, ("drop", line)) for line in range(line_count)])
    return fences


def spare(board, fences):
    """The numbers of the fences that can be left out alone."""
    if not is_sure(fenced(board, fences)):
        raise NotSure("the board is not sure with all of the fences")
    left_out = []
    for at in range(len(fences)):
        if is_sure(put_in(board, fences[:at] + fences[at + 1:])):
            left_out.append(at)
    return left_out


def fewest(board, most):
    """As few fences as can be with which the board is sure, or None if so many don't do."""
    require_board(board)
    if len(board[2]) > MOST_DEEDS_SHUT or not 0 <= most <= MOST_SHUTTING:
        raise BadCount("too many deeds, or another number than 0 to 2")
    for many in range(most + 1):
        for fences in choices_of_fences(board, many):
            if is_sure(put_in(board, fences)):
                return fences
    return None


def require_fences(board, fences):
    """Refuse fences that cannot be put into a board, by the first one."""
    memory, orders, program = board
    counts = counts_of_things(len(orders), len(memory))
    for at, told in enumerate(fences):
        if at == MOST_FENCES or not fence_can_be(told, len(program), counts):
            raise BadFence(at)


def fence_can_be(told, deed_count, counts):
    """Whether this is a place among so many deeds and a fence."""
    if len(told) != 2:
        return False
    place, fence = told
    if not 0 <= place <= deed_count or len(fence) == 0:
        return False
    return fence[0] in FENCES and deed_can_be(fence, counts)


def put_in(board, fences):
    """The board with fences that can be, also with more deeds than it may have."""
    memory, orders, program = board
    deeds = []
    for at in range(len(program) + 1):
        deeds.extend([fence for place, fence in fences if place == at])
        deeds.extend(program[at:at + 1])
    return memory, orders, tuple(deeds)


def choices_of_fences(board, many):
    """All lists of so many fences for a board, each by rising places."""
    singles = single_fences(board)
    choices = [[]]
    for step in range(many):
        choices = [
            choice + [told] for choice in choices for told in singles
            if not choice or choice[-1][0] <= told[0]
        ]
    return choices


def single_fences(board):
    """Each fence at each place of a board, by rising places."""
    memory, orders, program = board
    fences = [("wait",)]
    for line in range(len(memory) // LINE):
        fences.extend([("clean", line), ("drop", line)])
    return [(place, fence) for place in range(len(program) + 1) for fence in fences]
