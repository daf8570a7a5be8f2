"""Fences that can be left out."""

import copy
import random
import unittest

from blockcarrier.errors import (BadBoard, BadCount, BadFence, BadText, CarrierError, NotSure)
from blockcarrier.fences import fenced, fully, spare
from blockcarrier.judging import judged

from samples import EIGHT, EMPTY, RACE, board, shuffled_boards, sure_at_all_paces

ONE = ((4, 0, 1, None),)
WAIT = ("wait",)
LATE = board(EIGHT, ONE, ("start", 0), ("say", 0))


class Spare(unittest.TestCase):
    def test_no_fences(self):
        self.assertEqual(spare(EMPTY, []), [])
        self.assertEqual(spare(board(EIGHT, ONE, ("start", 0), ("say", 1)), []), [])

    def test_none_can_be_left_out(self):
        self.assertEqual(spare(LATE, [(1, WAIT)]), [])
        asked = board(EIGHT, ONE, ("say", 0), ("start", 0), ("say", 0))
        self.assertEqual(spare(asked, [(2, WAIT), (2, ("drop", 0))]), [])

    def test_some_can(self):
        self.assertEqual(spare(LATE, [(0, WAIT), (1, WAIT), (2, WAIT)]), [0, 2])
        self.assertEqual(spare(LATE, [(2, ("clean", 0)), (1, WAIT), (2, ("drop", 1))]), [0, 2])
        asked = board(EIGHT, ONE, ("say", 0), ("start", 0), ("say", 0))
        self.assertEqual(spare(asked, fully(asked)), [0, 1, 4])

    def test_all_can(self):
        sure = board(EIGHT, ONE, ("start", 0), ("say", 1))
        fences = [(0, WAIT), (1, ("drop", 0)), (2, ("clean", 1)), (2, WAIT)]
        self.assertEqual(spare(sure, fences), [0, 1, 2, 3])
        self.assertEqual(spare(EMPTY, [(0, WAIT)]), [0])

    def test_each_alone_but_not_both(self):
        self.assertEqual(spare(LATE, [(1, WAIT), (1, WAIT)]), [0, 1])
        self.assertEqual(judged(LATE)[0], "torn")

    def test_a_fence_that_undoes_what_another_does(self):
        # The drop would lose what is set; it needs the clean ahead of it.
        asked = board(EIGHT, (), ("set", 0, 9), ("say", 0))
        self.assertEqual(spare(asked, [(1, ("clean", 0)), (1, ("drop", 0))]), [1])

    def test_numbers_are_those_of_the_list_and_rise(self):
        self.assertEqual(spare(LATE, [(2, WAIT), (1, WAIT), (0, WAIT)]), [0, 2])

    def test_thirty_fences(self):
        self.assertEqual(spare(LATE, [(1, WAIT)] + [(2, WAIT)] * 29), list(range(1, 30)))

    def test_against_all_paces(self):
        chance = random.Random(41)
        counts = {True: 0, False: 0}
        for memory, orders, program in shuffled_boards(chance, 300):
            asked = (memory, orders, tuple(deed for deed in program[:7] if deed[0] != "drop"))
            fences = [told for told in fully(asked) if chance.random() < 0.7]
            if len(asked[2]) + len(fences) > 11 or not fences:
                continue
            if not sure_at_all_paces(fenced(asked, fences)):
                with self.assertRaises(NotSure):
                    spare(asked, fences)
                continue
            left_out = spare(asked, fences)
            for at in range(len(fences)):
                sure = sure_at_all_paces(fenced(asked, fences[:at] + fences[at + 1:]))
                self.assertEqual(at in left_out, sure)
                counts[sure] += 1
            self.assertEqual(left_out, sorted(set(left_out)))
        self.assertGreater(min(counts.values()), 10)

    def test_what_is_handed_in_is_as_before(self):
        fences = [(0, WAIT), (1, WAIT), (2, WAIT)]
        before = copy.deepcopy((LATE, fences))
        told = spare(LATE, fences)
        self.assertEqual((LATE, fences), before)
        told.append(7)
        fences.reverse()
        self.assertEqual(spare(LATE, before[1]), [0, 2])
        self.assertIs(told.__class__, list)


class Refused(unittest.TestCase):
    def refused(self, kind, asked, fences):
        with self.assertRaises(ValueError) as caught:
            spare(asked, fences)
        self.assertIs(caught.exception.__class__, kind)
        self.assertIsInstance(caught.exception, CarrierError)
        for other in {BadBoard, BadFence, NotSure, BadCount, BadText} - {kind}:
            self.assertNotIsInstance(caught.exception, other)
        return caught.exception

    def test_a_board_that_is_not_sure(self):
        self.refused(NotSure, LATE, [])
        self.refused(NotSure, LATE, [(0, WAIT), (2, WAIT)])
        self.refused(NotSure, RACE, [(2, WAIT)])
        self.refused(NotSure, board(EIGHT, (), ("set", 0, 9), ("drop", 0)), [(1, WAIT)])

    def test_a_board_that_only_its_fences_tear(self):
        asked = board(EIGHT, (), ("set", 0, 9), ("say", 0))
        self.refused(NotSure, asked, [(1, ("drop", 0))])

    def test_a_board_goes_first(self):
        told = self.refused(BadBoard, board(EIGHT, (), ("say", 8)), [(9, ("jump",))] * 31)
        self.assertEqual((told.word, told.number), ("program", 0))

    def test_then_a_fence(self):
        self.assertEqual(self.refused(BadFence, LATE, [(0, WAIT), (3, WAIT)]).number, 1)
        self.assertEqual(self.refused(BadFence, LATE, [(0, WAIT)] * 31).number, 30)

    def test_then_too_many_deeds(self):
        asked = board(EIGHT, ONE, *LATE[2], *[("say", 7)] * 58)
        told = self.refused(BadBoard, asked, [(0, WAIT)])
        self.assertEqual((told.word, told.number), ("program", 60))
        told = self.refused(BadBoard, asked, [(1, WAIT)])
        self.assertEqual((told.word, told.number), ("program", 60))
        self.refused(NotSure, asked, [])


if __name__ == "__main__":
    unittest.main()
