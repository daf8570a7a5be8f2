"""Races: the search, over all paces, for one at which something is amiss.

Up to the first thing amiss at a pace, all that is written and put is plain: what comes to a
cell does not depend on the numbers of the others. So each cell is followed alone through all
paces, as if the others were never amiss. Nothing is missed, since the first thing amiss is
some cell's; and at a pace at which a cell is found amiss, either it is, or another one ahead.
"""

from blockcarrier.boards import LINE
from blockcarrier.scripts import Script


class Track:
    """A cell, and the steps and moves of a script that concern it.

    A state is (moves done, number in memory, number in the line held or None).
    """

    def __init__(self, script, cell):
        self.start = (0, script.first[cell], None)
        self.last = script.last[cell]
        self.waits = script.waits
        self.told = script.told
        self.deeds = [steps_at(steps, cell) for steps in script.deeds]
        self.end = steps_at(script.end, cell)
        self.moves = moves_at(script.moves, cell)
        self.move_count = len(script.moves)

    def ways_on(self, state, at):
        """The states behind a beat in which the deed is done, each with the truths used.

        The state is None where something is amiss.
        """
        if self.waits[at]:
            return [(self.after_moves(state, self.told[at]), [])]
        behind = after_steps(state, self.deeds[at])
        if behind is None or behind[0] == self.told[at]:
            return [(behind, [])]
        return [(behind, [False]), (self.after_moves(behind, behind[0] + 1), [True])]

    def after_moves(self, state, until):
        """The state with so many moves done in all, or None if a fetch is amiss."""
        done, number, held = state
        for at, fetched, brought in self.moves:
            if done <= at < until:
                if fetched is not None and fetched != number:
                    return None
                if brought is not None:
                    number = brought
        return until, number, held

    def ends_well(self, state):
        """Whether all that is behind the last deed is plain."""
        moved = self.after_moves(state, self.move_count)
        if moved is None:
            return False
        done, number, held = after_steps(moved, self.end)
        return number == self.last

    def pace_found(self):
        """A pace at which this cell is amiss or another one ahead of it, or None."""
        reached = {self.start: []}
        for at in range(len(self.deeds)):
            following = {}
            for state, pace in reached.items():
                for behind, truths in self.ways_on(state, at):
                    if behind is None:
                        return pace + truths
                    if behind not in following:
                        following[behind] = pace + truths
            reached = following
        for state, pace in reached.items():
            if not self.ends_well(state):
                return pace
        return None


def pace_amiss(board):
    """A pace at which something is amiss, or None if there is none."""
    script = Script(board)
    for cell in range(len(script.first)):
        pace = Track(script, cell).pace_found()
        if pace is not None:
            return pace
    return None


def is_sure(board):
    return pace_amiss(board) is None


def steps_at(steps, cell):
    """Those of a deed's steps that concern a cell, as (word, number)."""
    own = []
    for word, place, number in steps:
        if word in ("read", "write") and place == cell:
            own.append((word, number))
        if word in ("take", "clean", "drop") and place == cell // LINE:
            own.append((word, number))
    return own


def moves_at(moves, cell):
    """Those of the moves that concern a cell, as (at, number fetched, number brought).

    A number is None where the cell is not the source or not the goal.
    """
    own = []
    for at, (source, goal, number) in enumerate(moves):
        if cell in (source, goal):
            own.append((at, number if source == cell else None, number if goal == cell else None))
    return own


def after_steps(state, steps):
    """The state behind such steps of a deed, or None if a reading is amiss."""
    done, number, held = state
    for word, plain in steps:
        if word == "read" and held != plain:
            return None
        if word == "take":
            held = number
        if word == "write":
            held = plain
        if word == "clean":
            number = held
        # Nothing asks for what was dropped; states that differ by it alone become one.
        if word == "drop":
            held = None
    return done, number, held
