"""Boards: what a board must be, and what its orders tell the carrier."""

from blockcarrier.errors import BadBoard

LINE = 4
MEMORY_SIZES = (4, 8, 12, 16)
NUMBERS = 10
MOST_ORDERS = 4
MOST_MOVED = 8
MOST_DEEDS = 60
MOST_STARTS = 3

# What each number of a deed stands for: all of them are numbered from 0, so that a check
# needs only the count of such things.
DEEDS = {
    "set": ("cell", "number"),
    "add": ("cell", "cell"),
    "say": ("cell",),
    "start": ("order",),
    "wait": (),
    "clean": ("line",),
    "drop": ("line",),
}


def require_board(board):
    """Refuse a board that cannot be, by the first thing in it that cannot."""
    memory, orders, program = board
    wrong = first_wrong_cell(memory)
    if wrong is not None:
        raise BadBoard("memory", wrong)
    wrong = first_wrong_order(orders, len(memory))
    if wrong is not None:
        raise BadBoard("orders", wrong)
    wrong = first_wrong_deed(program, len(orders), len(memory))
    if wrong is not None:
        raise BadBoard("program", wrong)


def first_wrong_cell(memory):
    """The number of the first cell that cannot be, or None."""
    if len(memory) not in MEMORY_SIZES:
        return 0
    for cell, number in enumerate(memory):
        if not 0 <= number < NUMBERS:
            return cell
    return None


def first_wrong_order(orders, cell_count):
    """The number of the first order that cannot be, or None."""
    for at, order in enumerate(orders):
        if at == MOST_ORDERS or not order_can_be(order, at, len(orders), cell_count):
            return at
    return None


def order_can_be(order, at, order_count, cell_count):
    """Whether the order with this number can be, among so many orders and cells."""
    source, goal, many, later = order
    if not 1 <= many <= MOST_MOVED:
        return False
    if later is not None and not at < later < order_count:
        return False
    return 0 <= source <= cell_count - many and 0 <= goal <= cell_count - many


def first_wrong_deed(program, order_count, cell_count):
    """The number of the first deed that cannot be, or None."""
    counts = counts_of_things(order_count, cell_count)
    starts = 0
    for at, deed in enumerate(program):
        if at == MOST_DEEDS or not deed_can_be(deed, counts):
            return at
        if deed[0] == "start":
            starts += 1
        if starts > MOST_STARTS:
            return at
    return None


def counts_of_things(order_count, cell_count):
    """How many things there are of each kind that a deed can name."""
    return {
        "cell": cell_count,
        "number": NUMBERS,
        "order": order_count,
        "line": cell_count // LINE,
    }


def deed_can_be(deed, counts):
    """Whether a deed can be, where there are so many things of each kind."""
    word, *numbers = deed
    kinds = DEEDS.get(word)
    if kinds is None or len(numbers) != len(kinds):
        return False
    return all([0 <= number < counts[kind] for number, kind in zip(numbers, kinds)])


def moves_told(orders, first):
    """The moves of an order and of its later ones, in turn, as (source, goal, bell).

    The bell is the number of the order that ends with the move, else None.
    """
    moves = []
    at = first
    while at is not None:
        source, goal, many, later = orders[at]
        for step in range(many):
            bell = at if step == many - 1 else None
            moves.append((source + step, goal + step, bell))
        at = later
    return moves
