"""The fewest fences that shut a board."""

import copy
import itertools
import random
import unittest

from blockcarrier.errors import (BadBoard, BadCount, BadFence, BadText, CarrierError, NotSure)
from blockcarrier.fences import fenced, fewest
from blockcarrier.judging import judged

from samples import EIGHT, EMPTY, RACE, SIXTY_FIGURES, board, shuffled_boards

ONE = ((4, 0, 1, None),)
SAY = ("say", 7)
LATE = board(EIGHT, ONE, ("start", 0), ("say", 0))
SURE = board(EIGHT, ONE, ("start", 0), ("say", 1))
# Each fetch sees what the line held has not cleaned yet, and nothing waits for the put.
THREE = board(EIGHT, ONE, ("set", 4, 9), ("say", 0), ("start", 0), ("say", 0))


def all_fences(asked, many):
    """All lists of so many fences, at all places, in all orders."""
    memory, orders, program = asked
    kinds = [("wait",)] + [(word, line) for word in ("clean", "drop")
                           for line in range(len(memory) // 4)]
    singles = list(itertools.product(range(len(program) + 1), kinds))
    return [list(fences) for fences in itertools.product(singles, repeat=many)]


class Fewest(unittest.TestCase):
    def found(self, asked, most, many):
        """So many fences are told, with which the board is sure, and with fewer it is not."""
        fences = fewest(asked, most)
        self.assertEqual(len(fences), many)
        self.assertEqual(judged(fenced(asked, fences)), ("sure",))
        places = [place for place, fence in fences]
        self.assertEqual(places, sorted(places))
        for fewer in range(many):
            self.none_do(asked, fewer)
        self.assertIs(fences.__class__, list)
        self.assertEqual([told.__class__ for told in fences], [tuple] * many)

    def none_do(self, asked, many):
        for fences in all_fences(asked, many):
            self.assertEqual(judged(fenced(asked, fences))[0], "torn")

    def test_none_is_needed(self):
        for most in (0, 1, 2):
            self.found(EMPTY, most, 0)
            self.found(SURE, most, 0)

    def test_one_is_needed(self):
        self.assertIsNone(fewest(LATE, 0))
        self.found(LATE, 1, 1)
        self.found(LATE, 2, 1)
        self.assertEqual(fewest(LATE, 1), [(1, ("wait",))])

    def test_two_are_needed(self):
        self.assertIsNone(fewest(RACE, 0))
        self.assertIsNone(fewest(RACE, 1))
        self.found(RACE, 2, 2)

    def test_two_at_places_apart(self):
        asked = board(EIGHT, ONE, ("set", 4, 9), ("start", 0), ("say", 0))
        self.found(asked, 2, 2)
        self.assertEqual(fewest(asked, 2), [(1, ("clean", 1)), (2, ("wait",))])

    def test_a_clean_alone(self):
        asked = board(EIGHT, ONE, ("set", 4, 9), ("start", 0))
        self.found(asked, 1, 1)
        self.assertEqual(fewest(asked, 1), [(1, ("clean", 1))])

    def test_fences_of_its_own(self):
        asked = board(EIGHT, ONE, ("say", 1), ("start", 0), ("wait",), ("drop", 0), ("say", 0))
        self.found(asked, 2, 0)
        asked = board(EIGHT, ONE, ("say", 1), ("start", 0), ("drop", 0), ("say", 0))
        self.found(asked, 2, 1)
        self.assertEqual(fewest(asked, 1), [(2, ("wait",))])

    def test_one_behind_all(self):
        # The line was held ahead of the start; it must be cleaned ahead of the third move,
        # which comes in the beat of that clean, at the soonest.
        orders = ((7, 7, 1, 1), (7, 7, 1, 2), (4, 0, 1, None))
        asked = board(EIGHT, orders, ("say", 0), ("start", 0), ("set", 1, 9))
        self.found(asked, 1, 1)
        self.assertEqual(fewest(asked, 2), [(3, ("clean", 0))])

    def test_so_many_do_not_do(self):
        for most in (0, 1, 2):
            self.assertIsNone(fewest(THREE, most))
        self.none_do(THREE, 0)
        self.none_do(THREE, 1)
        self.none_do(THREE, 2)

    def test_no_fence_does(self):
        asked = board(EIGHT, (), ("set", 0, 9), ("drop", 0), ("drop", 0))
        self.assertIsNone(fewest(asked, 0))
        self.found(asked, 1, 1)
        asked = board((1, 2, 3, 4), ((0, 1, 1, None),), ("start", 0), ("say", 1), ("start", 0),
                      ("set", 1, 9), ("drop", 0))
        self.assertIsNone(fewest(asked, 1))

    def test_five_deeds(self):
        self.found(board(EIGHT, ONE, ("start", 0), SAY, SAY, SAY, ("say", 0)), 2, 1)
        self.found(board(EIGHT, ONE, SAY, SAY, SAY, SAY, SAY), 2, 0)

    def test_many_boards(self):
        chance = random.Random(51)
        counts = {0: 0, 1: 0, 2: 0, None: 0}
        boards = [asked for asked in shuffled_boards(chance, 700)
                  if len(asked[0]) < 12 and len(asked[2]) <= 4]
        for asked in boards:
            fences = fewest(asked, 2)
            if fences is None:
                for many in (0, 1, 2):
                    self.none_do(asked, many)
                counts[None] += 1
            else:
                self.found(asked, 2, len(fences))
                counts[len(fences)] += 1
                for most in range(2):
                    enough = len(fences) <= most
                    self.assertEqual(fewest(asked, most) is not None, enough)
        self.assertGreater(counts[1], 0)
        self.assertGreater(counts[2], 0)

    def test_four_lines_and_long_orders(self):
        memory = EIGHT + (8, 7, 6, 5, 4, 3, 2, 1)
        orders = ((0, 4, 8, 1), (12, 1, 3, None), (5, 8, 8, 3), (8, 1, 8, None))
        asked = board(memory, orders, ("start", 0), ("say", 4), ("start", 2), ("say", 8))
        self.assertEqual(fewest(asked, 2), [(1, ("wait",)), (3, ("wait",))])
        self.found(asked, 2, 2)
        orders = ((8, 0, 8, 1), (0, 8, 8, 2), (4, 5, 8, 3), (1, 0, 8, None))
        asked = board(memory, orders, ("say", 3), ("start", 0), ("say", 6), ("start", 0),
                      ("say", 1))
        self.assertIsNone(fewest(asked, 2))

    def test_what_is_told_is_new_each_time(self):
        asked = copy.deepcopy(RACE)
        told = fewest(asked, 2)
        self.assertEqual(asked, RACE)
        before = list(told)
        told.clear()
        self.assertEqual(fewest(asked, 2), before)
        fewest(SURE, 0).append("changed")
        self.assertEqual(fewest(SURE, 0), [])


class Refused(unittest.TestCase):
    def refused(self, kind, asked, most):
        with self.assertRaises(ValueError) as caught:
            fewest(asked, most)
        self.assertIs(caught.exception.__class__, kind)
        self.assertIsInstance(caught.exception, CarrierError)
        for other in {BadBoard, BadFence, NotSure, BadCount, BadText} - {kind}:
            self.assertNotIsInstance(caught.exception, other)
        return caught.exception

    def test_six_deeds(self):
        for deeds in (6, 7, 60):
            asked = board(EIGHT, (), *[SAY] * deeds)
            for most in (0, 1, 2):
                self.refused(BadCount, asked, most)

    def test_six_deeds_that_are_fences_in_part(self):
        self.refused(BadCount, board(EIGHT, ONE, ("start", 0), *[("wait",)] * 5), 2)

    def test_other_numbers(self):
        for most in (-1, -2, 3, 4, 30, SIXTY_FIGURES, -SIXTY_FIGURES):
            for asked in (EMPTY, SURE, LATE, RACE):
                self.refused(BadCount, asked, most)

    def test_a_board_goes_first(self):
        for most in (0, 3, -1, SIXTY_FIGURES):
            told = self.refused(BadBoard, board(EIGHT, ONE, *[SAY] * 5, ("start", 1)), most)
            self.assertEqual((told.word, told.number), ("program", 5))
            told = self.refused(BadBoard, board(EIGHT, ONE, *[SAY] * 61), most)
            self.assertEqual((told.word, told.number), ("program", 60))


if __name__ == "__main__":
    unittest.main()
