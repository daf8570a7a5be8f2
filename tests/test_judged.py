"""Boards that are sure at every pace, and boards that are torn at some."""

import random
import unittest

from blockcarrier.judging import amiss, judged
from blockcarrier.running import story

from samples import (CHAIN_ORDERS, EIGHT, EMPTY, RACE, all_paces, board, shuffled_boards,
                     sure_at_all_paces)

ONE = ((4, 0, 1, None),)
SIXTEEN = EIGHT + (8, 7, 6, 5, 4, 3, 2, 1)
SAY_FAR = ("say", 7)
# Each start moves 8 + 4 + 3 + 1 cells among the lines 0, 1 and 2, other numbers each time.
FAR_CHAIN = ((4, 0, 8, 1), (0, 8, 4, 2), (0, 5, 3, 3), (8, 4, 1, None))


class Judged(unittest.TestCase):
    def sure(self, asked):
        self.assertEqual(judged(asked), ("sure",))

    def torn(self, asked, *words):
        """The row told is the first at the pace told; tells the pace."""
        told = judged(asked)
        self.assertEqual(told[0], "torn")
        word, pace, row = told
        wrong = amiss(asked, pace)
        self.assertEqual(wrong[0], row)
        if row[1] != "end":
            self.assertIn(row, story(asked, pace))
        if words:
            self.assertIn(row[1], words)
        self.assertEqual([told.__class__, pace.__class__, row.__class__], [tuple, list, tuple])
        self.assertTrue(all(truth is True or truth is False for truth in pace))
        self.assertLessEqual(len(pace), 60)
        return pace

    def torn_paces(self, asked):
        return [pace for pace in all_paces(asked) if amiss(asked, pace)]


class Sure(Judged):
    def test_nothing_happens(self):
        self.sure(EMPTY)
        self.sure(board(EIGHT, CHAIN_ORDERS))
        self.sure(board(EIGHT, CHAIN_ORDERS, ("wait",), ("clean", 0), ("drop", 1)))

    def test_no_carrier(self):
        self.sure(board(EIGHT, (), ("say", 0), ("set", 0, 9), ("add", 5, 0), ("add", 5, 5),
                        ("clean", 1), ("drop", 1), ("say", 5)))

    def test_a_carrier_alone(self):
        self.sure(board(EIGHT, ((0, 2, 6, 1), (1, 0, 7, None)), ("start", 0), ("start", 1)))

    def test_a_wait_between(self):
        self.sure(board(EIGHT, ONE, ("start", 0), ("wait",), ("say", 0)))

    def test_a_line_held_is_dropped_behind_the_wait(self):
        self.sure(board(EIGHT, ONE, ("say", 0), ("start", 0), ("wait",), ("drop", 0), ("say", 0)))

    def test_a_clean_ahead_of_the_start(self):
        self.sure(board(EIGHT, ONE, ("set", 4, 9), ("clean", 1), ("start", 0)))

    def test_other_cells_of_a_line_held(self):
        self.sure(board(EIGHT, ONE, ("start", 0), ("say", 1), ("say", 2), ("say", 4)))

    def test_the_same_number_is_moved(self):
        self.sure(board((5, 5, 5, 5, 5, 5, 5, 5), ((0, 4, 4, None),), ("say", 4), ("start", 0),
                        ("say", 4), ("set", 7, 5), ("say", 6)))

    def test_a_cell_is_moved_to_itself(self):
        self.sure(board(EIGHT, ((0, 0, 4, None),), ("start", 0), ("say", 3), ("say", 0)))

    def test_what_is_seen_amiss_by_nobody(self):
        # The line taken too early is dropped unread and untouched.
        self.sure(board(EIGHT, ((4, 0, 1, None),), ("say", 1), ("start", 0), ("say", 1),
                        ("wait",), ("drop", 0), ("say", 0)))

    def test_what_was_written_over_by_hand(self):
        self.sure(board(EIGHT, ONE, ("say", 0), ("start", 0), ("wait",), ("set", 0, 3),
                        ("say", 0)))


class Torn(Judged):
    def test_at_every_pace(self):
        self.torn(RACE, "read")

    def test_by_a_reading_at_slow_paces(self):
        asked = board(EIGHT, ONE, ("start", 0), ("say", 0))
        self.assertEqual(self.torn(asked, "read")[0], False)
        self.assertEqual([pace[0] for pace in self.torn_paces(asked)], [False, False])

    def test_by_the_second_reading_of_an_add(self):
        self.torn(board(EIGHT, ONE, ("start", 0), ("add", 4, 0)), "read")

    def test_by_a_drop_of_its_own(self):
        asked = board(EIGHT, (), ("set", 0, 9), ("drop", 0), ("say", 0))
        self.torn(asked, "read")
        self.torn(board(EIGHT, (), ("set", 0, 9), ("drop", 0)), "end")

    def test_at_one_pace_of_all(self):
        asked = board(EIGHT, ONE, ("start", 0), *[SAY_FAR] * 8, ("say", 0))
        self.assertEqual(len(self.torn_paces(asked)), 2)
        self.assertEqual(self.torn(asked, "read")[:9], [False] * 9)

    def test_at_fast_paces_alone(self):
        asked = board(EIGHT, ONE, ("set", 4, 9), ("start", 0), ("clean", 1))
        torn = self.torn_paces(asked)
        self.assertEqual({pace[0] for pace in torn}, {True})
        self.assertEqual(len(torn), 4)
        self.assertEqual(self.torn(asked, "fetch")[:1], [True])

    def test_only_if_the_carrier_stops_midway(self):
        # Cell 0 becomes 9, and 1 again.
        asked = board((1, 2, 3, 4, 9, 1, 7, 8), ((4, 0, 1, 1), (5, 0, 1, None)),
                      ("start", 0), SAY_FAR, SAY_FAR, ("say", 0))
        torn = self.torn_paces(asked)
        self.assertEqual({tuple(pace[:3]) for pace in torn},
                         {(True, False, False), (False, True, False), (False, False, True)})
        self.assertEqual(sum(self.torn(asked, "read")[:3]), 1)

    def test_only_by_memory_in_the_end(self):
        asked = board(EIGHT, ONE, ("start", 0), ("set", 1, 0))
        for pace in self.torn_paces(asked):
            self.assertEqual([row[1] for row in amiss(asked, pace)], ["end"])
        self.assertEqual(self.torn(asked, "end")[:1], [False])

    def test_only_by_memory_in_the_end_cleaned_by_the_program(self):
        asked = board(EIGHT, ONE, ("set", 1, 0), ("start", 0), ("clean", 0), ("drop", 0))
        torn = self.torn_paces(asked)
        self.assertTrue(0 < len(torn) < len(all_paces(asked)))
        self.torn(asked, "end")

    def test_only_by_a_fetch(self):
        # The goal of the late fetch is written over by a later order.
        orders = ((4, 0, 1, 1), (5, 0, 1, None))
        asked = board(EIGHT, orders, ("start", 0), ("set", 4, 9), ("clean", 1))
        torn = self.torn_paces(asked)
        self.assertEqual([pace[:2] for pace in torn], [[False, False]] * 2)
        for pace in torn:
            self.assertEqual([row[1] for row in amiss(asked, pace)], ["fetch"])
        self.assertEqual(self.torn(asked, "fetch")[:2], [False, False])

    def test_behind_a_wait(self):
        asked = board(EIGHT, ONE, ("say", 0), ("start", 0), ("wait",), ("say", 0))
        self.torn(asked, "read")

    def test_by_a_fetch_in_a_wait(self):
        asked = board(EIGHT, ONE, ("set", 4, 9), ("start", 0), ("wait",), ("say", 0))
        self.torn(asked, "fetch")

    def test_by_a_fetch_behind_the_program(self):
        orders = ((0, 4, 4, 1), (4, 0, 4, None))
        asked = board(EIGHT, orders, ("set", 3, 9), ("start", 0))
        self.torn(asked, "fetch")

    def test_by_what_another_order_brings_back(self):
        orders = ((0, 4, 1, 1), (4, 1, 1, None))
        self.torn(board(EIGHT, orders, ("start", 0), ("set", 4, 2), ("clean", 1)))

    def test_the_pace_can_be_changed_afterwards(self):
        asked = board(EIGHT, ONE, ("start", 0), *[SAY_FAR] * 3, ("say", 0))
        word, pace, row = judged(asked)
        before = list(pace)
        pace.append("changed")
        pace.reverse()
        self.assertEqual(judged(asked), ("torn", before, row))


class AllPaces(Judged):
    def compare(self, chance, boards, deeds):
        counts = {True: 0, False: 0}
        for asked in boards:
            if len(asked[2]) <= deeds:
                sure = sure_at_all_paces(asked)
                if sure:
                    self.sure(asked)
                else:
                    self.torn(asked)
                if any(deed[0] == "start" for deed in asked[2]):
                    counts[sure] += 1
        return counts

    def test_boards_of_all_sizes(self):
        chance = random.Random(21)
        counts = self.compare(chance, shuffled_boards(chance, 600), 8)
        self.assertGreater(min(counts.values()), 60)

    def test_boards_of_few_cells_and_many_fences(self):
        chance = random.Random(22)
        boards = [self.board_of_few_numbers(chance) for _ in range(400)]
        counts = self.compare(chance, boards, 8)
        self.assertGreater(min(counts.values()), 80)

    def board_of_few_numbers(self, chance):
        """Few numbers, so that much that comes too late or too early is not seen."""
        memory = tuple(chance.randrange(2) for _ in range(8))
        orders = tuple((chance.randrange(7), chance.randrange(7), chance.randint(1, 2), later)
                       for later in (chance.choice((None, 1)), None))
        deeds = [("start", 0), ("wait",), ("clean", 0), ("clean", 1), ("drop", 0), ("drop", 1),
                 ("set", chance.randrange(8), 1), ("set", chance.randrange(8), 0),
                 ("add", chance.randrange(8), chance.randrange(8)), ("say", chance.randrange(8)),
                 ("say", chance.randrange(8))]
        program = [("start", chance.randrange(2))] + chance.sample(deeds, 6)
        chance.shuffle(program)
        return board(memory, orders, *program)


class Long(Judged):
    """Boards of four lines, 24 deeds and three starts of chained orders, and longer ones."""

    def test_a_sure_one_that_keeps_off_the_lines_of_the_carrier(self):
        deeds = [("set", 12, 9), ("add", 13, 12), ("say", 15), ("clean", 3), ("drop", 3),
                 ("say", 13), ("add", 14, 14)] * 3
        asked = board(SIXTEEN, FAR_CHAIN, *[("start", 0)] * 3, *deeds)
        self.assertEqual(len(asked[2]), 24)
        self.sure(asked)

    def test_one_that_waits_and_drops(self):
        part = [("start", 0), ("say", 13), ("add", 14, 12), ("wait",), ("say", 3), ("add", 12, 11),
                ("drop", 0), ("drop", 2)]
        self.assertEqual(len(part * 3), 24)
        self.sure(board(SIXTEEN, FAR_CHAIN, *part * 3))
        for at in (3, 6, 7, 11, 14, 15, 19):
            deeds = part * 3
            deeds[at] = ("say", 12)
            self.torn(board(SIXTEEN, FAR_CHAIN, *deeds), "read")
        for at in (22, 23):
            deeds = part * 3
            deeds[at] = ("say", 12)
            self.sure(board(SIXTEEN, FAR_CHAIN, *deeds))

    def test_one_torn_by_its_last_deed_at_the_slowest_pace(self):
        orders = ((4, 0, 1, None),)
        asked = board(SIXTEEN, orders, ("start", 0), *[("say", 8)] * 22, ("say", 0))
        self.assertEqual(len(asked[2]), 24)
        self.assertEqual(self.torn(asked, "read")[:23], [False] * 23)

    def test_one_torn_by_its_last_deed_and_the_last_move(self):
        # Three starts tell 60 moves; the last move told in time is the 23rd.
        orders = ((0, 4, 8, 1), (4, 0, 8, 2), (8, 8, 4, None))
        deeds = [("say", 15), ("say", 14), ("say", 12)] * 7
        self.sure(board(SIXTEEN, orders, *[("start", 0)] * 3, *deeds))
        self.torn(board(SIXTEEN, orders, *[("start", 0)] * 3, *deeds[:-1], ("say", 4)), "read")

    def test_one_torn_at_a_single_number_of_moves(self):
        # Cell 0 goes through 8, 7, 6 .. while line 0 may be taken; only as it was is it right.
        orders = tuple((4 + at, 0, 1, at + 1 if at < 3 else None) for at in range(4))
        memory = (1, 2, 3, 4, 1, 1, 9, 1, 0, 0, 0, 0, 5, 6, 7, 8)
        asked = board(memory, orders, ("start", 0), *[("say", 12)] * 22, ("say", 0))
        pace = self.torn(asked, "read")
        self.assertEqual(sum(pace[:23]), 3)

    def test_one_torn_only_in_the_end(self):
        deeds = [("say", 13)] * 20
        asked = board(SIXTEEN, FAR_CHAIN, *[("start", 0)] * 3, *deeds, ("set", 11, 9))
        self.torn(asked)
        far = ((0, 4, 2, 1), (1, 6, 2, 2), (2, 4, 2, 3), (3, 5, 2, None))
        asked = board(SIXTEEN, far, *[("start", 0)] * 3, *deeds, ("set", 7, 9))
        self.torn(asked, "end")

    def test_sixty_deeds(self):
        asked = board(SIXTEEN, FAR_CHAIN, *[("start", 0)] * 3, *[("say", 12), ("drop", 3)] * 28,
                      ("clean", 0))
        self.assertEqual(len(asked[2]), 60)
        self.sure(asked)
        asked = board(SIXTEEN, FAR_CHAIN, *[("start", 0)] * 3, *[("say", 12), ("drop", 3)] * 28,
                      ("say", 0))
        self.torn(asked, "read")


if __name__ == "__main__":
    unittest.main()
