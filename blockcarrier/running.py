"""Runs of a board at a pace, beat by beat."""

from blockcarrier.boards import require_board
from blockcarrier.machine import Machine


def story(board, pace):
    """All that happens at a pace, in turn, as (beat, word, place, number)."""
    return run(board, pace).rows


def ended(board, pace):
    """What a run comes to: (said, memory, beats)."""
    machine = run(board, pace)
    return tuple(machine.said), tuple(machine.memory), machine.beats


def run(board, pace):
    """The machine behind a whole run of the board at a pace."""
    require_board(board)
    machine = Machine(board)
    used = 0
    while not machine.is_over():
        did = machine.do_next_deed()
        moves = True
        # Beside an idle processor the carrier always moves, and no truth is used up.
        if did and machine.left and used < len(pace):
            moves = pace[used]
            used += 1
        if moves and machine.left:
            machine.move_one()
        machine.end_beat()
    machine.clean_all()
    return machine
