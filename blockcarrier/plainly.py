"""What is to be seen if nothing comes between: no lines, and orders moved at once."""

from blockcarrier.boards import NUMBERS, moves_told, require_board


def plain_end(board):
    """What the board comes to plainly: (said, memory)."""
    memory, said, reads, fetches = plain_run(board)
    return tuple(said), tuple(memory)


def sights(board):
    """What the processor's readings and the carrier's fetches see plainly, in turn."""
    memory, said, reads, fetches = plain_run(board)
    return reads, fetches


def plain_run(board):
    """The lists of memory in the end, of what is said, read and fetched plainly."""
    require_board(board)
    cells, orders, program = board
    memory = list(cells)
    said = []
    reads = []
    fetches = []
    for deed in program:
        match deed:
            case ("set", cell, number):
                memory[cell] = number
            case ("add", cell, other):
                reads.append((cell, memory[cell]))
                reads.append((other, memory[other]))
                memory[cell] = (memory[cell] + memory[other]) % NUMBERS
            case ("say", cell):
                reads.append((cell, memory[cell]))
                said.append(memory[cell])
            case ("start", order):
                fetches.extend(moved_at_once(memory, orders, order))
    return memory, said, reads, fetches


def moved_at_once(memory, orders, first):
    """Move all that a start tells, in this memory; tells the fetches as (cell, number)."""
    fetches = []
    for source, goal, bell in moves_told(orders, first):
        fetches.append((source, memory[source]))
        memory[goal] = memory[source]
    return fetches
