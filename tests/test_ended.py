"""What runs come to: what was said, memory, and the count of beats."""

import unittest

from blockcarrier.running import ended

from samples import CHAIN_ORDERS, EIGHT, EMPTY, RACE, board


class Ended(unittest.TestCase):
    def test_at_several_paces(self):
        memory = (5, 6, 3, 4, 5, 6, 7, 8)
        self.assertEqual(ended(RACE, []), ((1, 1, 2), memory, 4))
        self.assertEqual(ended(RACE, [False]), ((1, 1, 2), memory, 4))
        self.assertEqual(ended(RACE, [False, True, False]), ((1, 1, 2), memory, 5))
        self.assertEqual(ended(RACE, [False] * 3), ((1, 1, 2), memory, 6))
        self.assertEqual(ended(RACE, [False] * 100), ((1, 1, 2), memory, 6))
        self.assertEqual(ended(RACE, [True] * 100), ((1, 1, 2), memory, 4))

    def test_what_is_said_turns_on_the_pace(self):
        asked = board(EIGHT, ((4, 0, 1, None),), ("start", 0), ("say", 0))
        memory = (5, 2, 3, 4, 5, 6, 7, 8)
        self.assertEqual(ended(asked, [True]), ((5,), memory, 2))
        self.assertEqual(ended(asked, [False]), ((1,), memory, 2))
        self.assertEqual(ended(asked, [False, False]), ((1,), memory, 3))

    def test_nothing_happens(self):
        self.assertEqual(ended(EMPTY, []), ((), (0, 0, 0, 0), 0))
        self.assertEqual(ended(EMPTY, [True, False]), ((), (0, 0, 0, 0), 0))
        self.assertEqual(ended(board(EIGHT, CHAIN_ORDERS), []), ((), EIGHT, 0))

    def test_each_deed_has_a_beat(self):
        deeds = (("wait",), ("clean", 0), ("drop", 1), ("say", 3), ("set", 0, 1), ("add", 0, 0))
        self.assertEqual(ended(board(EIGHT, (), *deeds), [False]), ((4,), (2,) + EIGHT[1:], 6))

    def test_waits(self):
        orders = ((4, 0, 2, None),)
        memory = (5, 6, 3, 4, 5, 6, 7, 8)
        asked = board(EIGHT, orders, ("start", 0), ("wait",), ("say", 1))
        self.assertEqual(ended(asked, []), ((6,), memory, 4))
        self.assertEqual(ended(asked, [False]), ((6,), memory, 5))
        self.assertEqual(ended(board(EIGHT, orders, ("start", 0), ("wait",)), [False]),
                         ((), memory, 4))
        self.assertEqual(ended(board(EIGHT, orders, ("wait",), ("start", 0)), []),
                         ((), memory, 3))

    def test_the_carrier_goes_on_behind_the_program(self):
        asked = board(EIGHT, CHAIN_ORDERS, ("start", 0), ("start", 1))
        memory = (1, 2, 3, 4, 1, 2, 3, 4)
        self.assertEqual(ended(asked, []), ((), memory, 4))
        self.assertEqual(ended(asked, [False, False]), ((), memory, 6))

    def test_the_cleans_at_the_end_are_in_memory(self):
        asked = board(EIGHT, ((4, 0, 1, None),), ("set", 1, 9), ("set", 6, 0), ("start", 0))
        # The clean of line 0 puts the old cell 0 back over what the carrier moved there.
        self.assertEqual(ended(asked, []), ((), (1, 9, 3, 4, 5, 6, 0, 8), 3))

    def test_a_dropped_line_is_lost(self):
        asked = board(EIGHT, (), ("set", 1, 9), ("drop", 0), ("set", 5, 0))
        self.assertEqual(ended(asked, []), ((), (1, 2, 3, 4, 5, 0, 7, 8), 3))

    def test_adds(self):
        for cell, other, number in ((6, 6, 4), (3, 0, 5), (5, 3, 0), (0, 4, 6), (7, 7, 6)):
            memory = list(EIGHT)
            memory[cell] = number
            asked = board(EIGHT, (), ("add", cell, other), ("say", cell))
            self.assertEqual(ended(asked, []), ((number,), tuple(memory), 2))

    def test_overlaps(self):
        asked = board((7, 2, 3, 4), ((0, 1, 3, None),), ("start", 0))
        self.assertEqual(ended(asked, []), ((), (7, 7, 7, 7), 3))
        asked = board((7, 2, 3, 4), ((1, 0, 3, None),), ("start", 0))
        self.assertEqual(ended(asked, []), ((), (2, 3, 4, 4), 3))

    def test_as_much_as_can_be(self):
        memory = tuple(range(8)) + (9, 8, 7, 6, 5, 4, 3, 2)
        orders = ((0, 8, 8, 1), (8, 0, 8, 2), (0, 8, 8, 3), (8, 0, 8, None))
        program = (("start", 0),) * 3 + (("say", 8),) * 57
        said, after, beats = ended((memory, orders, program), [False] * 100)
        self.assertEqual(said, (9,) * 57)
        self.assertEqual(after, tuple(range(8)) * 2)
        self.assertEqual(beats, 60 + 96)

    def test_the_kinds_of_what_is_told(self):
        told = ended(RACE, [])
        said, memory, beats = told
        self.assertEqual([part.__class__ for part in (told, said, memory, beats)],
                         [tuple, tuple, tuple, int])


if __name__ == "__main__":
    unittest.main()
