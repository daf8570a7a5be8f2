"""What is amiss at a pace."""

import random
import unittest

from blockcarrier.judging import amiss
from blockcarrier.plainly import plain_end, sights
from blockcarrier.running import ended, story

from samples import CHAIN_ORDERS, EIGHT, EMPTY, RACE, board, shuffled_boards, shuffled_pace

ONE = ((4, 0, 1, None),)


def found_apart(asked, pace):
    """What is amiss, found for reads and fetches apart and put together by their turns."""
    rows = story(asked, pace)
    wrong = []
    for word, due in zip(("read", "fetch"), sights(asked)):
        own = [(turn, row) for turn, row in enumerate(rows) if row[1] == word]
        assert len(own) == len(due)
        wrong += [(turn, row) for (turn, row), (cell, number) in zip(own, due)
                  if row[3] != number]
    said, memory, beats = ended(asked, pace)
    return [row for turn, row in sorted(wrong)] + [
        (beats, "end", cell, number)
        for cell, (number, plain) in enumerate(zip(memory, plain_end(asked)[1]))
        if number != plain]


class Amiss(unittest.TestCase):
    def test_nothing_is(self):
        self.assertEqual(amiss(EMPTY, []), [])
        self.assertEqual(amiss(EMPTY, [False, True]), [])
        self.assertEqual(amiss(board(EIGHT, (), ("say", 0), ("add", 0, 4), ("say", 0)), []), [])

    def test_the_same_board_at_several_paces(self):
        asked = board(EIGHT, ONE, ("start", 0), ("say", 0), ("say", 1))
        self.assertEqual(amiss(asked, []), [])
        self.assertEqual(amiss(asked, [True, False]), [])
        self.assertEqual(amiss(asked, [False]), [(1, "read", 0, 1)])
        self.assertEqual(amiss(asked, [False] * 3), [(1, "read", 0, 1)])

    def test_several_boards_at_the_same_pace(self):
        pace = [False, True]
        torn = board(EIGHT, ONE, ("start", 0), ("say", 0))
        sure = board(EIGHT, ONE, ("start", 0), ("wait",), ("say", 0))
        self.assertEqual(amiss(torn, pace), [(1, "read", 0, 1)])
        self.assertEqual(amiss(sure, pace), [])

    def test_readings_of_a_line_taken_too_early(self):
        self.assertEqual(amiss(RACE, []), [(2, "read", 0, 1), (3, "read", 1, 2)])
        self.assertEqual(amiss(RACE, [False] * 9), [(2, "read", 0, 1), (3, "read", 1, 2)])

    def test_a_fetch_that_comes_too_late(self):
        asked = board(EIGHT, ONE, ("start", 0), ("set", 4, 9), ("clean", 1))
        self.assertEqual(amiss(asked, [False, False, True]),
                         [(2, "fetch", 4, 9), (3, "end", 0, 9)])
        self.assertEqual(amiss(asked, [False, True]), [])

    def test_a_fetch_that_comes_ahead_of_a_clean(self):
        asked = board(EIGHT, ONE, ("set", 4, 9), ("start", 0))
        self.assertEqual(amiss(asked, []), [(1, "fetch", 4, 5), (2, "end", 0, 5)])

    def test_an_end_row_is_of_the_number_of_beats(self):
        asked = board(EIGHT, ONE, ("start", 0), ("set", 1, 0))
        self.assertEqual(amiss(asked, [False, False]), [(3, "end", 0, 1)])
        self.assertEqual(amiss(asked, [False, True]), [(2, "end", 0, 1)])
        self.assertEqual(amiss(asked, []), [])

    def test_end_rows_go_by_rising_cells(self):
        asked = board(EIGHT, ((4, 2, 2, 1), (6, 0, 2, None)), ("set", 1, 0), ("start", 0))
        self.assertEqual(plain_end(asked), ((), (7, 8, 5, 6, 5, 6, 7, 8)))
        self.assertEqual(amiss(asked, []),
                         [(5, "end", 0, 1), (5, "end", 1, 0), (5, "end", 2, 3), (5, "end", 3, 4)])

    def test_end_rows_go_behind_all_others(self):
        asked = board(EIGHT, ((4, 0, 1, 1), (1, 5, 1, None)), ("set", 1, 0), ("start", 0),
                      ("say", 0))
        self.assertEqual(amiss(asked, []), [
            (2, "read", 0, 1), (2, "fetch", 1, 2), (3, "end", 0, 1), (3, "end", 5, 2)])

    def test_reads_and_fetches_each_in_their_own_turn(self):
        asked = board(EIGHT, CHAIN_ORDERS, ("say", 3), ("start", 0), ("say", 4), ("say", 5),
                      ("say", 6))
        reads, fetches = sights(asked)
        self.assertEqual(reads, [(3, 4), (4, 1), (5, 6), (6, 3)])
        self.assertEqual(fetches, [(0, 1), (2, 3), (3, 4)])
        self.assertEqual(amiss(asked, []), [(4, "read", 6, 7)])
        self.assertEqual(amiss(asked, [False, True]), [(2, "read", 4, 5), (4, "read", 6, 7)])

    def test_a_cell_read_twice_by_one_deed(self):
        asked = board(EIGHT, ONE, ("start", 0), ("add", 0, 0))
        self.assertEqual(amiss(asked, [False]),
                         [(1, "read", 0, 1), (1, "read", 0, 1), (2, "end", 0, 2)])

    def test_a_write_or_say_is_no_row(self):
        asked = board(EIGHT, ONE, ("start", 0), ("add", 1, 0), ("say", 1))
        words = [row[1] for row in amiss(asked, [False])]
        self.assertEqual(words, ["read", "read", "end", "end"])

    def test_a_drop_loses_what_was_written(self):
        asked = board(EIGHT, (), ("set", 1, 9), ("drop", 0), ("say", 1))
        self.assertEqual(amiss(asked, []), [(2, "read", 1, 2), (3, "end", 1, 2)])

    def test_it_is_not_enough_that_the_other_readings_see_the_same_number(self):
        asked = board((1, 1, 3, 4, 5, 6, 7, 8), ONE, ("say", 0), ("start", 0), ("say", 1),
                      ("say", 0))
        self.assertEqual(amiss(asked, []), [(3, "read", 0, 1)])

    def test_rows_are_the_very_rows_of_the_story(self):
        chance = random.Random(11)
        torn = 0
        for asked in shuffled_boards(chance, 400):
            pace = shuffled_pace(chance)
            told = amiss(asked, pace)
            self.assertEqual(told, found_apart(asked, pace))
            torn += told != []
        self.assertGreater(torn, 100)
        self.assertLess(torn, 300)

    def test_the_kinds_of_what_is_told(self):
        told = amiss(RACE, [])
        self.assertIs(told.__class__, list)
        self.assertEqual([row.__class__ for row in told], [tuple, tuple])


if __name__ == "__main__":
    unittest.main()
