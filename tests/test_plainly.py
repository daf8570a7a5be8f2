"""What is to be seen if nothing comes between."""

import unittest

from blockcarrier.plainly import plain_end, sights

from samples import CHAIN_ORDERS, EIGHT, EMPTY, RACE, board


class Plainly(unittest.TestCase):
    def check(self, asked, said, memory, reads, fetches):
        self.assertEqual(plain_end(asked), (said, memory))
        self.assertEqual(sights(asked), (reads, fetches))

    def test_a_race(self):
        self.check(RACE, (1, 5, 6), (5, 6, 3, 4, 5, 6, 7, 8),
                   [(0, 1), (0, 5), (1, 6)], [(4, 5), (5, 6)])

    def test_nothing_happens(self):
        self.check(EMPTY, (), (0, 0, 0, 0), [], [])
        self.check(board(EIGHT, CHAIN_ORDERS), (), EIGHT, [], [])

    def test_set_and_say(self):
        self.check(board(EIGHT, (), ("say", 7), ("set", 7, 0), ("say", 7), ("say", 0)),
                   (8, 0, 1), (1, 2, 3, 4, 5, 6, 7, 0), [(7, 8), (7, 0), (0, 1)], [])

    def test_a_cell_with_itself(self):
        self.check(board(EIGHT, (), ("add", 6, 6)),
                   (), (1, 2, 3, 4, 5, 6, 4, 8), [(6, 7), (6, 7)], [])

    def test_adds_of_one_line_and_of_two(self):
        self.check(board(EIGHT, (), ("add", 3, 0), ("add", 5, 3), ("say", 5)),
                   (1,), (1, 2, 3, 5, 5, 1, 7, 8),
                   [(3, 4), (0, 1), (5, 6), (3, 5), (5, 1)], [])

    def test_a_sum_of_ten_is_0(self):
        self.check(board(EIGHT, (), ("add", 5, 3), ("say", 5)),
                   (0,), (1, 2, 3, 4, 5, 0, 7, 8), [(5, 6), (3, 4), (5, 0)], [])

    def test_fences_do_nothing(self):
        self.check(board(EIGHT, ((4, 0, 1, None),),
                         ("wait",), ("set", 1, 9), ("drop", 0), ("say", 1), ("clean", 0),
                         ("clean", 1), ("start", 0), ("drop", 1), ("wait",), ("say", 0)),
                   (9, 5), (5, 9, 3, 4, 5, 6, 7, 8), [(1, 9), (0, 5)], [(4, 5)])

    def test_a_start_sees_what_was_set(self):
        self.check(board(EIGHT, ((0, 4, 1, None),), ("set", 0, 9), ("start", 0)),
                   (), (9, 2, 3, 4, 9, 6, 7, 8), [], [(0, 9)])

    def test_an_order_and_its_later_ones_at_once(self):
        self.check(board(EIGHT, CHAIN_ORDERS, ("start", 0), ("say", 7), ("say", 5)),
                   (4, 6), (1, 2, 3, 4, 1, 6, 3, 4),
                   [(7, 4), (5, 6)], [(0, 1), (2, 3), (3, 4)])

    def test_an_order_within_a_chain(self):
        self.check(board(EIGHT, CHAIN_ORDERS, ("start", 2)),
                   (), (1, 2, 3, 4, 5, 6, 3, 4), [], [(2, 3), (3, 4)])

    def test_several_starts(self):
        self.check(board(EIGHT, CHAIN_ORDERS,
                         ("start", 1), ("set", 1, 0), ("start", 0), ("start", 1)),
                   (), (1, 0, 3, 4, 1, 0, 3, 4), [],
                   [(1, 2), (0, 1), (2, 3), (3, 4), (1, 0)])

    def test_overlaps(self):
        self.check(board((7, 2, 3, 4), ((0, 1, 3, None),), ("start", 0)),
                   (), (7, 7, 7, 7), [], [(0, 7), (1, 7), (2, 7)])
        self.check(board((7, 2, 3, 4), ((1, 0, 3, None),), ("start", 0)),
                   (), (2, 3, 4, 4), [], [(1, 2), (2, 3), (3, 4)])

    def test_a_chain_in_which_one_moves_what_another_brought(self):
        self.check(board((7, 2, 3, 4), ((0, 1, 1, 1), (1, 2, 1, 2), (2, 3, 1, None)), ("start", 0)),
                   (), (7, 7, 7, 7), [], [(0, 7), (1, 7), (2, 7)])

    def test_the_kinds_of_what_is_told(self):
        end = plain_end(RACE)
        self.assertEqual([part.__class__ for part in (end, *end)], [tuple, tuple, tuple])
        seen = sights(RACE)
        self.assertEqual([part.__class__ for part in (seen, *seen)], [tuple, list, list])
        self.assertEqual([row.__class__ for row in seen[0] + seen[1]], [tuple] * 5)


if __name__ == "__main__":
    unittest.main()
