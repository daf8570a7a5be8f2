"""Judging: what is amiss at a pace, and whether anything is at any."""

from blockcarrier.plainly import plain_run
from blockcarrier.races import pace_amiss
from blockcarrier.running import run


def amiss(board, pace):
    """The rows of the story that see another number than plainly, then the cells in the end."""
    machine = run(board, pace)
    memory, said, reads, fetches = plain_run(board)
    rows = rows_amiss(machine.rows, {"read": reads, "fetch": fetches})
    for cell, number in enumerate(machine.memory):
        if number != memory[cell]:
            rows.append((machine.beats, "end", cell, number))
    return rows


def rows_amiss(rows, due):
    """Those rows of a story that see another number than is due, each word in its own turn."""
    turns = {word: 0 for word in due}
    wrong = []
    for row in rows:
        beat, word, place, number = row
        if word in due:
            cell, plain = due[word][turns[word]]
            turns[word] += 1
            if number != plain:
                wrong.append(row)
    return wrong


def judged(board):
    """("sure",), or ("torn", pace, row) with a pace and the first row amiss at it."""
    pace = pace_amiss(board)
    if pace is None:
        return ("sure",)
    return "torn", pace, amiss(board, pace)[0]
