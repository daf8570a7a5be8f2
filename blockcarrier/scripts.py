"""Scripts: what the deeds and moves of a board do, as long as nothing is amiss."""

from blockcarrier.machine import Machine
from blockcarrier.plainly import plain_run


class Walk(Machine):
    """The processor alone, each reading of which sees what it plainly is due to.

    Which lines are taken, cleaned and dropped is the same at every pace, and as long as
    nothing is amiss so is what is read and written: no carrier is needed to tell that.
    """

    def __init__(self, board, due):
        super().__init__(board)
        self.due = due
        self.readings = 0

    def read_cell(self, cell):
        self.line_of(cell)
        number = self.due[self.readings][1]
        self.readings += 1
        self.tell("read", cell, number)
        return number

    def steps_of(self, deed):
        """What comes of a deed, as (word, place, number)."""
        told = len(self.rows)
        self.do_deed(deed)
        return self.steps_from(told)

    def steps_at_the_end(self):
        """What comes of the end of the run."""
        told = len(self.rows)
        self.clean_all()
        return self.steps_from(told)

    def steps_from(self, told):
        return [(word, place, number) for beat, word, place, number in self.rows[told:]]


class Script:
    """The steps of each deed and each move of a board, with plain numbers."""

    def __init__(self, board):
        memory, orders, program = board
        end, said, reads, fetches = plain_run(board)
        walk = Walk(board, reads)
        self.first = list(memory)
        self.last = end
        self.waits = [deed[0] == "wait" for deed in program]
        self.deeds = []
        # How many moves are told in all, once each deed is done.
        self.told = []
        for deed in program:
            self.deeds.append(walk.steps_of(deed))
            self.told.append(len(walk.left))
        self.end = walk.steps_at_the_end()
        self.moves = [(source, goal, seen[1])
                      for (source, goal, bell), seen in zip(walk.left, fetches)]
