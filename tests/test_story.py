"""Stories, row by row."""

import unittest

from blockcarrier.running import story

from samples import CHAIN_ORDERS, EIGHT, EMPTY, RACE, board

ONE = ((4, 0, 1, None),)
TWO = ((4, 0, 2, None),)


class Paces(unittest.TestCase):
    def test_no_truth(self):
        self.assertEqual(story(RACE, []), [
            (0, "take", 0, 0), (0, "read", 0, 1), (0, "say", 0, 1),
            (1, "start", 0, 0), (1, "fetch", 4, 5), (1, "put", 0, 5),
            (2, "read", 0, 1), (2, "say", 0, 1),
            (2, "fetch", 5, 6), (2, "put", 1, 6), (2, "bell", 0, 0),
            (3, "read", 1, 2), (3, "say", 1, 2),
        ])

    def test_too_few_truths(self):
        self.assertEqual(story(RACE, [False]), [
            (0, "take", 0, 0), (0, "read", 0, 1), (0, "say", 0, 1),
            (1, "start", 0, 0),
            (2, "read", 0, 1), (2, "say", 0, 1), (2, "fetch", 4, 5), (2, "put", 0, 5),
            (3, "read", 1, 2), (3, "say", 1, 2),
            (3, "fetch", 5, 6), (3, "put", 1, 6), (3, "bell", 0, 0),
        ])

    def test_as_many_truths_as_are_used(self):
        self.assertEqual(story(RACE, [False, True, False]), [
            (0, "take", 0, 0), (0, "read", 0, 1), (0, "say", 0, 1),
            (1, "start", 0, 0),
            (2, "read", 0, 1), (2, "say", 0, 1), (2, "fetch", 4, 5), (2, "put", 0, 5),
            (3, "read", 1, 2), (3, "say", 1, 2),
            (4, "fetch", 5, 6), (4, "put", 1, 6), (4, "bell", 0, 0),
        ])

    def test_too_many_truths(self):
        self.assertEqual(story(RACE, [True] * 9), story(RACE, []))
        self.assertEqual(story(RACE, [True, True, False, False]), story(RACE, []))
        self.assertEqual(story(RACE, [False, True, False] + [False] * 97),
                         story(RACE, [False, True, False]))

    def test_all_truths_false(self):
        for many in (3, 4, 100):
            self.assertEqual(story(RACE, [False] * many), [
                (0, "take", 0, 0), (0, "read", 0, 1), (0, "say", 0, 1),
                (1, "start", 0, 0),
                (2, "read", 0, 1), (2, "say", 0, 1),
                (3, "read", 1, 2), (3, "say", 1, 2),
                (4, "fetch", 4, 5), (4, "put", 0, 5),
                (5, "fetch", 5, 6), (5, "put", 1, 6), (5, "bell", 0, 0),
            ])

    def test_truths_wait_while_the_carrier_has_nothing_left(self):
        asked = board(EIGHT, ONE, ("say", 4), ("start", 0), ("say", 4), ("start", 0), ("say", 4))
        self.assertEqual(story(asked, [True, False, True]), [
            (0, "take", 1, 0), (0, "read", 4, 5), (0, "say", 4, 5),
            (1, "start", 0, 0), (1, "fetch", 4, 5), (1, "put", 0, 5), (1, "bell", 0, 0),
            (2, "read", 4, 5), (2, "say", 4, 5),
            (3, "start", 0, 0),
            (4, "read", 4, 5), (4, "say", 4, 5),
            (4, "fetch", 4, 5), (4, "put", 0, 5), (4, "bell", 0, 0),
        ])

    def test_the_processor_is_ahead_in_each_beat(self):
        asked = board(EIGHT, ONE, ("start", 0), ("say", 0))
        self.assertEqual(story(asked, [False, True]), [
            (0, "start", 0, 0),
            (1, "take", 0, 0), (1, "read", 0, 1), (1, "say", 0, 1),
            (1, "fetch", 4, 5), (1, "put", 0, 5), (1, "bell", 0, 0),
        ])

    def test_nothing_happens(self):
        for pace in ([], [False], [True, False]):
            self.assertEqual(story(EMPTY, pace), [])
            self.assertEqual(story(board(EIGHT, TWO), pace), [])


class Waits(unittest.TestCase):
    def test_wait_with_something_left_uses_no_truth(self):
        asked = board(EIGHT, TWO, ("start", 0), ("wait",), ("start", 0), ("say", 0))
        self.assertEqual(story(asked, [False, False, True]), [
            (0, "start", 0, 0),
            (1, "fetch", 4, 5), (1, "put", 0, 5),
            (2, "fetch", 5, 6), (2, "put", 1, 6), (2, "bell", 0, 0),
            (4, "start", 0, 0),
            (5, "take", 0, 0), (5, "read", 0, 5), (5, "say", 0, 5),
            (5, "fetch", 4, 5), (5, "put", 0, 5),
            (6, "fetch", 5, 6), (6, "put", 1, 6), (6, "bell", 0, 0),
        ])

    def test_wait_with_nothing_left_is_a_deed_of_one_beat(self):
        asked = board(EIGHT, (), ("wait",), ("wait",), ("say", 3))
        self.assertEqual(story(asked, [False]), [
            (2, "take", 0, 0), (2, "read", 3, 4), (2, "say", 3, 4),
        ])

    def test_wait_behind_the_last_move(self):
        asked = board(EIGHT, ONE, ("start", 0), ("wait",), ("say", 0))
        self.assertEqual(story(asked, [True, False]), [
            (0, "start", 0, 0), (0, "fetch", 4, 5), (0, "put", 0, 5), (0, "bell", 0, 0),
            (2, "take", 0, 0), (2, "read", 0, 5), (2, "say", 0, 5),
        ])

    def test_wait_at_the_end_of_the_program(self):
        asked = board(EIGHT, TWO, ("set", 7, 0), ("start", 0), ("wait",))
        self.assertEqual(story(asked, [False, False]), [
            (0, "take", 1, 0), (0, "write", 7, 0),
            (1, "start", 0, 0),
            (2, "fetch", 4, 5), (2, "put", 0, 5),
            (3, "fetch", 5, 6), (3, "put", 1, 6), (3, "bell", 0, 0),
            (5, "clean", 1, 0),
        ])


class Orders(unittest.TestCase):
    def test_an_order_and_its_later_ones(self):
        self.assertEqual(story(board(EIGHT, CHAIN_ORDERS, ("start", 0)), []), [
            (0, "start", 0, 0), (0, "fetch", 0, 1), (0, "put", 4, 1), (0, "bell", 0, 0),
            (1, "fetch", 2, 3), (1, "put", 6, 3), (1, "bell", 2, 0),
            (2, "fetch", 3, 4), (2, "put", 7, 4), (2, "bell", 3, 0),
        ])

    def test_an_order_within_a_chain(self):
        self.assertEqual(story(board(EIGHT, CHAIN_ORDERS, ("start", 2)), [False]), [
            (0, "start", 2, 0),
            (1, "fetch", 2, 3), (1, "put", 6, 3), (1, "bell", 2, 0),
            (2, "fetch", 3, 4), (2, "put", 7, 4), (2, "bell", 3, 0),
        ])

    def test_several_starts_are_moved_in_turn(self):
        asked = board(EIGHT, CHAIN_ORDERS, ("start", 1), ("start", 0), ("start", 1))
        self.assertEqual(story(asked, [False] * 3), [
            (0, "start", 1, 0), (1, "start", 0, 0), (2, "start", 1, 0),
            (3, "fetch", 1, 2), (3, "put", 5, 2), (3, "bell", 1, 0),
            (4, "fetch", 0, 1), (4, "put", 4, 1), (4, "bell", 0, 0),
            (5, "fetch", 2, 3), (5, "put", 6, 3), (5, "bell", 2, 0),
            (6, "fetch", 3, 4), (6, "put", 7, 4), (6, "bell", 3, 0),
            (7, "fetch", 1, 2), (7, "put", 5, 2), (7, "bell", 1, 0),
        ])

    def test_a_start_behind_what_is_left(self):
        asked = board(EIGHT, CHAIN_ORDERS, ("start", 2), ("start", 1))
        self.assertEqual(story(asked, []), [
            (0, "start", 2, 0), (0, "fetch", 2, 3), (0, "put", 6, 3), (0, "bell", 2, 0),
            (1, "start", 1, 0), (1, "fetch", 3, 4), (1, "put", 7, 4), (1, "bell", 3, 0),
            (2, "fetch", 1, 2), (2, "put", 5, 2), (2, "bell", 1, 0),
        ])

    def test_a_start_at_the_end_sees_memory_and_not_the_line(self):
        asked = board(EIGHT, ((0, 4, 1, None),), ("set", 0, 9), ("start", 0))
        self.assertEqual(story(asked, [True]), [
            (0, "take", 0, 0), (0, "write", 0, 9),
            (1, "start", 0, 0), (1, "fetch", 0, 1), (1, "put", 4, 1), (1, "bell", 0, 0),
            (2, "clean", 0, 0),
        ])

    def test_goal_overlaps_behind_source(self):
        asked = board((7, 2, 3, 4), ((0, 1, 3, None),), ("start", 0))
        self.assertEqual(story(asked, []), [
            (0, "start", 0, 0), (0, "fetch", 0, 7), (0, "put", 1, 7),
            (1, "fetch", 1, 7), (1, "put", 2, 7),
            (2, "fetch", 2, 7), (2, "put", 3, 7), (2, "bell", 0, 0),
        ])

    def test_goal_overlaps_ahead_of_source(self):
        asked = board((7, 2, 3, 4), ((1, 0, 3, None),), ("start", 0))
        self.assertEqual(story(asked, []), [
            (0, "start", 0, 0), (0, "fetch", 1, 2), (0, "put", 0, 2),
            (1, "fetch", 2, 3), (1, "put", 1, 3),
            (2, "fetch", 3, 4), (2, "put", 2, 4), (2, "bell", 0, 0),
        ])

    def test_goal_is_source(self):
        asked = board((7, 2, 3, 4), ((2, 2, 2, None),), ("start", 0))
        self.assertEqual(story(asked, []), [
            (0, "start", 0, 0), (0, "fetch", 2, 3), (0, "put", 2, 3),
            (1, "fetch", 3, 4), (1, "put", 3, 4), (1, "bell", 0, 0),
        ])


class Lines(unittest.TestCase):
    def test_a_line_is_taken_touched_cleaned_and_dropped(self):
        asked = board(
            EIGHT, (),
            ("set", 1, 9), ("clean", 0), ("clean", 0), ("say", 1), ("set", 2, 0),
            ("drop", 0), ("drop", 0), ("say", 2), ("clean", 0), ("drop", 1), ("clean", 1))
        self.assertEqual(story(asked, []), [
            (0, "take", 0, 0), (0, "write", 1, 9),
            (1, "clean", 0, 0),
            (3, "read", 1, 9), (3, "say", 1, 9),
            (4, "write", 2, 0),
            (5, "drop", 0, 0),
            (7, "take", 0, 0), (7, "read", 2, 3), (7, "say", 2, 3),
        ])

    def test_a_line_that_is_dropped_is_not_touched_any_more(self):
        asked = board(EIGHT, (), ("set", 4, 9), ("drop", 1), ("clean", 1), ("say", 4), ("clean", 1))
        self.assertEqual(story(asked, []), [
            (0, "take", 1, 0), (0, "write", 4, 9), (1, "drop", 1, 0),
            (3, "take", 1, 0), (3, "read", 4, 5), (3, "say", 4, 5),
        ])

    def test_a_line_is_held_on_when_cleaned(self):
        asked = board(EIGHT, ONE, ("set", 1, 9), ("clean", 0), ("start", 0), ("wait",),
                      ("say", 0), ("set", 1, 8), ("clean", 0))
        self.assertEqual(story(asked, []), [
            (0, "take", 0, 0), (0, "write", 1, 9), (1, "clean", 0, 0),
            (2, "start", 0, 0), (2, "fetch", 4, 5), (2, "put", 0, 5), (2, "bell", 0, 0),
            (4, "read", 0, 1), (4, "say", 0, 1), (5, "write", 1, 8), (6, "clean", 0, 0),
        ])

    def test_a_clean_is_seen_by_the_move_of_its_beat(self):
        asked = board(EIGHT, ONE, ("set", 4, 9), ("start", 0), ("clean", 1))
        self.assertEqual(story(asked, [False, True]), [
            (0, "take", 1, 0), (0, "write", 4, 9), (1, "start", 0, 0),
            (2, "clean", 1, 0), (2, "fetch", 4, 9), (2, "put", 0, 9), (2, "bell", 0, 0),
        ])

    def test_a_clean_writes_all_four_cells(self):
        asked = board(EIGHT, ((7, 3, 1, None),), ("set", 0, 9), ("start", 0), ("clean", 0),
                      ("drop", 0), ("say", 3), ("say", 0))
        self.assertEqual(story(asked, []), [
            (0, "take", 0, 0), (0, "write", 0, 9),
            (1, "start", 0, 0), (1, "fetch", 7, 8), (1, "put", 3, 8), (1, "bell", 0, 0),
            (2, "clean", 0, 0), (3, "drop", 0, 0),
            (4, "take", 0, 0), (4, "read", 3, 4), (4, "say", 3, 4),
            (5, "read", 0, 9), (5, "say", 0, 9),
        ])

    def test_each_cell_is_in_its_line(self):
        memory = tuple(range(10)) + (9, 8, 7, 6, 5, 4)
        for cell in range(16):
            self.assertEqual(story(board(memory, (), ("say", cell)), []), [
                (0, "take", cell // 4, 0), (0, "read", cell, memory[cell]),
                (0, "say", cell, memory[cell]),
            ])

    def test_the_cleans_at_the_end_have_the_number_of_beats(self):
        asked = board(EIGHT + (9, 0, 1, 2), TWO, ("set", 9, 4), ("say", 4), ("set", 1, 3),
                      ("start", 0))
        self.assertEqual(story(asked, [False]), [
            (0, "take", 2, 0), (0, "write", 9, 4),
            (1, "take", 1, 0), (1, "read", 4, 5), (1, "say", 4, 5),
            (2, "take", 0, 0), (2, "write", 1, 3),
            (3, "start", 0, 0),
            (4, "fetch", 4, 5), (4, "put", 0, 5),
            (5, "fetch", 5, 6), (5, "put", 1, 6), (5, "bell", 0, 0),
            (6, "clean", 0, 0), (6, "clean", 2, 0),
        ])


class Adds(unittest.TestCase):
    def test_a_cell_with_itself(self):
        self.assertEqual(story(board(EIGHT, (), ("add", 6, 6)), []), [
            (0, "take", 1, 0), (0, "read", 6, 7), (0, "read", 6, 7), (0, "write", 6, 4),
            (1, "clean", 1, 0),
        ])

    def test_cells_of_one_line(self):
        self.assertEqual(story(board(EIGHT, (), ("add", 3, 0)), []), [
            (0, "take", 0, 0), (0, "read", 3, 4), (0, "read", 0, 1), (0, "write", 3, 5),
            (1, "clean", 0, 0),
        ])

    def test_cells_of_two_lines(self):
        self.assertEqual(story(board(EIGHT, (), ("add", 5, 3), ("add", 0, 4)), []), [
            (0, "take", 1, 0), (0, "read", 5, 6), (0, "take", 0, 0), (0, "read", 3, 4),
            (0, "write", 5, 0),
            (1, "read", 0, 1), (1, "read", 4, 5), (1, "write", 0, 6),
            (2, "clean", 0, 0), (2, "clean", 1, 0),
        ])

    def test_only_the_line_of_the_cell_is_touched(self):
        self.assertEqual(story(board(EIGHT, (), ("add", 0, 4), ("clean", 1)), []), [
            (0, "take", 0, 0), (0, "read", 0, 1), (0, "take", 1, 0), (0, "read", 4, 5),
            (0, "write", 0, 6),
            (2, "clean", 0, 0),
        ])


if __name__ == "__main__":
    unittest.main()
