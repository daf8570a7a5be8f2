"""Fences put into boards, and those that shut a board all around."""

import copy
import random
import unittest

from blockcarrier.errors import (BadBoard, BadCount, BadFence, BadText, CarrierError, NotSure)
from blockcarrier.fences import fenced, fully, spare
from blockcarrier.judging import judged
from blockcarrier.plainly import plain_end

from samples import EIGHT, EMPTY, RACE, SIXTY_FIGURES, board, shuffled_boards

WAIT = ("wait",)
ORDER = (0, 4, 1, None)
SAY = ("say", 0)
WRONG_FENCES = (
    ("", ), ("wait ",), ("WAIT",), ("fence",), ("set", 0, 0), ("add", 0, 0), ("say", 0),
    ("start", 0), ("set",), ("say",),
    (), ("wait", 0), ("wait", 0, 0), ("clean",), ("drop",), ("clean", 0, 0), ("drop", 1, 0, 0),
    ("clean", 2), ("drop", 2), ("clean", -1), ("drop", -1), ("clean", 16),
    ("clean", SIXTY_FIGURES), ("drop", -SIXTY_FIGURES),
)
WRONG_PLACES = (-1, 5, 6, 60, SIXTY_FIGURES, -SIXTY_FIGURES)


class Fenced(unittest.TestCase):
    def check(self, asked, fences, *program):
        memory, orders, deeds = asked
        self.assertEqual(fenced(asked, fences), (memory, orders, program))

    def test_no_fences(self):
        self.check(RACE, [], *RACE[2])
        self.check(EMPTY, [])

    def test_each_fence(self):
        first, second, *rest = RACE[2]
        for fence in (WAIT, ("clean", 0), ("clean", 1), ("drop", 0), ("drop", 1)):
            self.check(RACE, [(1, fence)], first, fence, second, *rest)

    def test_ahead_of_the_first_deed_and_behind_the_last(self):
        self.check(RACE, [(0, WAIT)], WAIT, *RACE[2])
        self.check(RACE, [(4, WAIT)], *RACE[2], WAIT)
        self.check(RACE, [(4, WAIT), (0, ("drop", 1))], ("drop", 1), *RACE[2], WAIT)

    def test_an_empty_program(self):
        self.check(EMPTY, [(0, WAIT), (0, ("drop", 0)), (0, ("clean", 0))],
                   WAIT, ("drop", 0), ("clean", 0))

    def test_places_are_those_of_the_program_handed_in(self):
        first, second, third, fourth = RACE[2]
        self.check(RACE, [(0, WAIT), (1, ("clean", 0)), (2, ("drop", 1)), (3, WAIT), (4, WAIT)],
                   WAIT, first, ("clean", 0), second, ("drop", 1), third, WAIT, fourth, WAIT)

    def test_fences_of_one_place_stay_in_their_order(self):
        first, *rest = RACE[2]
        fences = [WAIT, ("drop", 1), ("clean", 0), ("drop", 0), WAIT, ("clean", 0)]
        self.check(RACE, [(1, fence) for fence in fences], first, *fences, *rest)
        fences.reverse()
        self.check(RACE, [(1, fence) for fence in fences], first, *fences, *rest)

    def test_places_need_not_rise(self):
        first, second, third, fourth = RACE[2]
        fences = [(3, WAIT), (1, ("clean", 1)), (3, ("drop", 0)), (1, ("clean", 0)), (0, WAIT)]
        self.check(RACE, fences, WAIT, first, ("clean", 1), ("clean", 0), second, third,
                   WAIT, ("drop", 0), fourth)

    def test_thirty_fences(self):
        self.check(RACE, [(4, WAIT)] * 30, *RACE[2], *[WAIT] * 30)

    def test_many_boards(self):
        chance = random.Random(31)
        for asked in shuffled_boards(chance, 100):
            memory, orders, program = asked
            fences = [(chance.randint(0, len(program)),
                       chance.choice((WAIT, ("clean", chance.randrange(len(memory) // 4)),
                                      ("drop", chance.randrange(len(memory) // 4)))))
                      for _ in range(chance.randrange(31))]
            wanted = list(program)
            # From the last place on, so that the places ahead still hold.
            for place, fence in reversed(sorted(fences, key=lambda told: told[0])):
                wanted.insert(place, fence)
            self.check(asked, fences, *wanted)

    def test_the_kinds_of_what_is_told(self):
        told = fenced(RACE, [(0, WAIT)])
        self.assertEqual([part.__class__ for part in (told, *told)], [tuple] * 4)
        self.assertEqual([deed.__class__ for deed in told[2]], [tuple] * 5)

    def test_what_is_handed_in_is_as_before(self):
        fences = [(4, WAIT), (0, ("drop", 1)), (0, ("clean", 0))]
        asked = (EIGHT, (ORDER,), RACE[2])
        before = copy.deepcopy((asked, fences))
        told = fenced(asked, fences)
        self.assertEqual((asked, fences), before)
        fences.clear()
        self.assertEqual(told, fenced(asked, before[1]))

    def test_it_is_a_board_that_can_be_fenced_again(self):
        once = fenced(RACE, [(2, WAIT)])
        self.check(once, [(3, ("drop", 0))], *RACE[2][:2], WAIT, ("drop", 0), *RACE[2][2:])


class Refused(unittest.TestCase):
    def refused(self, asked, fences, number):
        for function in (fenced, spare):
            before = list(fences)
            with self.assertRaises(BadFence) as caught:
                function(asked, fences)
            self.assertEqual(caught.exception.number, number)
            self.assertEqual(fences, before)

    def refused_board(self, asked, fences, word, number):
        for function in (fenced, spare):
            with self.assertRaises(BadBoard) as caught:
                function(asked, fences)
            told = (caught.exception.word, caught.exception.number)
            self.assertEqual(told, (word, number))

    def test_fences_that_cannot_be(self):
        for fence in WRONG_FENCES:
            with self.subTest(fence=fence):
                self.refused(RACE, [(0, fence)], 0)
                self.refused(RACE, [(4, WAIT), (4, fence), (0, WAIT)], 1)

    def test_places_that_there_are_not(self):
        for place in WRONG_PLACES:
            with self.subTest(place=place):
                self.refused(RACE, [(place, WAIT)], 0)
                self.refused(RACE, [(4, WAIT), (0, ("drop", 1)), (place, ("clean", 0))], 2)
        self.refused(EMPTY, [(0, WAIT), (1, WAIT)], 1)

    def test_lines_that_there_are_not(self):
        for cells in (4, 8, 12, 16):
            asked = board((0,) * cells, ())
            last = cells // 4 - 1
            self.assertEqual(fenced(asked, [(0, ("drop", last))])[2], (("drop", last),))
            for word in ("clean", "drop"):
                self.refused(asked, [(0, (word, last)), (0, (word, last + 1))], 1)

    def test_tuples_of_another_length(self):
        for told in ((), (0,), (0, WAIT, 0), (0, WAIT, WAIT)):
            self.refused(RACE, [(0, WAIT), told], 1)

    def test_the_first_one_is_told(self):
        self.refused(RACE, [(0, WAIT), (5, WAIT), (0, ("jump",)), (-1, WAIT)], 1)
        self.refused(RACE, [(0, WAIT), (0, ("jump",)), (5, WAIT)], 1)

    def test_a_31st_fence(self):
        for many in (31, 32, 100):
            self.refused(RACE, [(4, WAIT)] * many, 30)

    def test_a_31st_fence_among_other_faults(self):
        self.refused(RACE, [(4, WAIT)] * 30 + [(5, WAIT)], 30)
        self.refused(RACE, [(4, WAIT)] * 29 + [(5, WAIT), (4, WAIT)], 29)
        self.refused(RACE, [(4, WAIT)] * 31 + [(5, WAIT)], 30)

    def test_sixty_deeds_with_the_fences(self):
        for deeds, many in ((59, 1), (60, 0), (45, 15), (30, 30)):
            asked = board(EIGHT, (), *[SAY] * deeds)
            self.assertEqual(len(fenced(asked, [(deeds, WAIT)] * many)[2]), 60)
            self.assertEqual(spare(asked, [(deeds, WAIT)] * many), list(range(many)))

    def test_61_deeds_with_the_fences(self):
        for deeds, many in ((60, 1), (59, 2), (45, 16), (31, 30), (60, 30)):
            asked = board(EIGHT, (), *[SAY] * deeds)
            self.refused_board(asked, [(0, WAIT)] * many, "program", 60)
            self.refused_board(asked, [(deeds, ("drop", 0))] * many, "program", 60)

    def test_a_board_goes_ahead_of_its_fences(self):
        fences = [(-1, ("jump",))]
        self.refused_board(board((1, 2), ()), fences, "memory", 0)
        self.refused_board(board(EIGHT, (ORDER,) * 5), fences, "orders", 4)
        self.refused_board(board(EIGHT, (), SAY, ("start", 0)), fences, "program", 1)
        self.refused_board(board(EIGHT, (), *[SAY] * 61), [(0, WAIT)] * 31, "program", 60)

    def test_a_fence_that_cannot_be_goes_ahead_of_too_many_deeds(self):
        asked = board(EIGHT, (), *[SAY] * 60)
        self.refused(asked, [(0, WAIT), (61, WAIT)], 1)
        self.refused(asked, [(0, WAIT)] * 31, 30)

    def test_what_is_refused_is_a_bad_fence_and_nothing_else(self):
        for function in (fenced, spare):
            with self.assertRaises(ValueError) as caught:
                function(RACE, [(5, WAIT)])
            self.assertIs(caught.exception.__class__, BadFence)
            self.assertIsInstance(caught.exception, CarrierError)
            for other in (BadBoard, NotSure, BadCount, BadText):
                self.assertNotIsInstance(caught.exception, other)


class Fully(unittest.TestCase):
    def test_no_start(self):
        self.assertEqual(fully(EMPTY), [])
        self.assertEqual(fully(board(EIGHT, (ORDER,), SAY, WAIT, ("clean", 0))), [])

    def test_one_start_and_one_line(self):
        asked = board((1, 2, 3, 4), ((0, 3, 1, None),), SAY, ("start", 0), SAY)
        self.assertEqual(fully(asked), [(1, ("clean", 0)), (2, WAIT), (2, ("drop", 0))])

    def test_the_last_deed_is_a_start(self):
        asked = board((1, 2, 3, 4), ((0, 3, 1, None),), ("start", 0))
        self.assertEqual(fully(asked), [(0, ("clean", 0)), (1, WAIT), (1, ("drop", 0))])

    def test_two_lines(self):
        self.assertEqual(fully(RACE), [
            (1, ("clean", 0)), (1, ("clean", 1)), (2, WAIT), (2, ("drop", 0)), (2, ("drop", 1))])

    def test_three_starts_and_four_lines(self):
        asked = board(EIGHT + EIGHT, (ORDER,), ("start", 0), SAY, ("start", 0), SAY, SAY,
                      ("start", 0))
        wanted = []
        for place in (0, 2, 5):
            wanted += [(place, ("clean", line)) for line in range(4)]
            wanted += [(place + 1, WAIT)]
            wanted += [(place + 1, ("drop", line)) for line in range(4)]
        self.assertEqual(len(wanted), 27)
        self.assertEqual(fully(asked), wanted)

    def test_starts_side_by_side(self):
        asked = board((1, 2, 3, 4), ((0, 3, 1, None),), *[("start", 0)] * 3)
        self.assertEqual(fully(asked), [
            (0, ("clean", 0)),
            (1, WAIT), (1, ("drop", 0)), (1, ("clean", 0)),
            (2, WAIT), (2, ("drop", 0)), (2, ("clean", 0)),
            (3, WAIT), (3, ("drop", 0))])

    def test_fences_that_are_there_already_change_nothing(self):
        asked = board((1, 2, 3, 4), ((0, 3, 1, None),), ("clean", 0), ("start", 0), WAIT,
                      ("drop", 0))
        self.assertEqual(fully(asked), [(1, ("clean", 0)), (2, WAIT), (2, ("drop", 0))])

    def test_a_board_that_has_too_many_deeds_with_them(self):
        asked = board(EIGHT, (ORDER,), *[SAY] * 59, ("start", 0))
        self.assertEqual(len(fully(asked)), 5)
        with self.assertRaises(BadBoard) as caught:
            fenced(asked, fully(asked))
        self.assertEqual((caught.exception.word, caught.exception.number), ("program", 60))

    def test_boards_without_drops_are_sure_with_them(self):
        chance = random.Random(32)
        torn = 0
        for memory, orders, program in shuffled_boards(chance, 500):
            asked = (memory, orders, tuple(deed for deed in program if deed[0] != "drop"))
            shut = fenced(asked, fully(asked))
            self.assertEqual(judged(shut), ("sure",))
            self.assertEqual(plain_end(shut), plain_end(asked))
            torn += judged(asked) != ("sure",)
        self.assertGreater(torn, 100)

    def test_a_board_with_a_drop_of_its_own_may_be_torn_with_them(self):
        asked = board(EIGHT, (ORDER,), ("start", 0), ("set", 0, 9), ("drop", 0))
        self.assertEqual(judged(fenced(asked, fully(asked)))[0], "torn")

    def test_rising_places(self):
        chance = random.Random(33)
        for asked in shuffled_boards(chance, 100):
            places = [place for place, fence in fully(asked)]
            self.assertEqual(places, sorted(places))

    def test_what_is_told_is_new_each_time(self):
        told = fully(RACE)
        before = list(told)
        told.clear()
        self.assertEqual(fully(RACE), before)
        self.assertEqual([part.__class__ for part in before[0] + (before,)], [int, tuple, list])


if __name__ == "__main__":
    unittest.main()
