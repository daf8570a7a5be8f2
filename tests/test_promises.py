"""What holds of every function, and of every board at every pace."""

import copy
import random
import unittest

from blockcarrier.errors import BadBoard
from blockcarrier.plainly import plain_end, sights
from blockcarrier.running import ended, story

from samples import EIGHT, RACE, board, shuffled_boards, shuffled_pace

ASKED = {
    "story": story,
    "ended": ended,
    "plain_end": lambda asked, pace: plain_end(asked),
    "sights": lambda asked, pace: sights(asked),
}


def cells_of(orders, first):
    """What a start is due to move: ("fetch", source), ("put", goal) and ("bell", order)."""
    if first is None:
        return []
    source, goal, many, later = orders[first]
    due = []
    for step in range(many):
        due += [("fetch", source + step), ("put", goal + step)]
    return due + [("bell", first)] + cells_of(orders, later)


def fenced_all_around(asked):
    """A board without drops, with each start shut off from all that is around it."""
    memory, orders, program = asked
    lines = range(len(memory) // 4)
    deeds = []
    for deed in program:
        if deed[0] == "start":
            deeds += [("clean", line) for line in lines] + [deed, ("wait",)]
            deeds += [("drop", line) for line in lines]
        elif deed[0] != "drop":
            deeds.append(deed)
    return memory, orders, tuple(deeds)


class Asked(unittest.TestCase):
    def test_nothing_handed_in_is_changed(self):
        chance = random.Random(1)
        for asked in shuffled_boards(chance, 50):
            pace = shuffled_pace(chance)
            before = copy.deepcopy((asked, pace))
            for function in ASKED.values():
                function(asked, pace)
                self.assertEqual((asked, pace), before)

    def test_nothing_handed_in_is_changed_by_a_refusal(self):
        asked = board((1, 2, 3, 10), (), ("say", 9))
        pace = [True, False]
        for function in ASKED.values():
            with self.assertRaises(BadBoard):
                function(asked, pace)
        self.assertEqual(asked, ((1, 2, 3, 10), (), (("say", 9),)))
        self.assertEqual(pace, [True, False])

    def test_a_pace_may_be_changed_later(self):
        pace = [False, True, False]
        rows = story(RACE, pace)
        before = list(rows)
        pace.clear()
        self.assertEqual(rows, before)
        self.assertEqual(story(RACE, pace), story(RACE, []))
        self.assertNotEqual(before, story(RACE, pace))

    def test_what_is_told_is_new_each_time(self):
        pace = [False]
        rows = story(RACE, pace)
        reads, fetches = sights(RACE)
        before = copy.deepcopy((rows, reads, fetches))
        for told in (rows, reads, fetches):
            told.reverse()
            told.append("changed")
        self.assertEqual((story(RACE, pace), *sights(RACE)), before)

    def test_the_same_question_has_the_same_answer(self):
        chance = random.Random(2)
        for asked in shuffled_boards(chance, 50):
            pace = shuffled_pace(chance)
            for function in ASKED.values():
                self.assertEqual(function(asked, pace), function(asked, list(pace)))

    def test_a_refusal_changes_no_later_answer(self):
        before = [function(RACE, [False]) for function in ASKED.values()]
        for wrong in (board((1, 2), ()), board(EIGHT, ((0, 0, 9, None),)),
                      board(EIGHT, (), ("set", 0, 1), ("jump",))):
            for function in ASKED.values():
                with self.assertRaises(BadBoard):
                    function(wrong, [False])
        self.assertEqual([function(RACE, [False]) for function in ASKED.values()], before)


class EachPace(unittest.TestCase):
    def setUp(self):
        chance = random.Random(3)
        self.runs = [(asked, shuffled_pace(chance)) for asked in shuffled_boards(chance, 400)]

    def test_each_cell_is_moved_once_in_turn_and_each_bell_rings_once(self):
        for asked, pace in self.runs:
            memory, orders, program = asked
            due = []
            for deed in program:
                if deed[0] == "start":
                    due += cells_of(orders, deed[1])
            moved = [(word, place) for beat, word, place, number in story(asked, pace)
                     if word in ("fetch", "put", "bell")]
            self.assertEqual(moved, due)

    def test_one_cell_is_moved_in_a_beat_at_most(self):
        for asked, pace in self.runs:
            beats = [beat for beat, word, place, number in story(asked, pace) if word == "fetch"]
            self.assertEqual(beats, sorted(set(beats)))

    def test_beats_rise_and_ended_counts_them(self):
        for asked, pace in self.runs:
            said, memory, count = ended(asked, pace)
            beats = [row[0] for row in story(asked, pace)]
            self.assertEqual(beats, sorted(beats))
            self.assertLessEqual(max(beats, default=0), count)
            self.assertGreaterEqual(count, len(asked[2]))

    def test_ended_tells_what_the_story_says(self):
        for asked, pace in self.runs:
            said = [row[3] for row in story(asked, pace) if row[1] == "say"]
            self.assertEqual(ended(asked, pace)[0], tuple(said))

    def test_truths_left_over_say_nothing(self):
        for asked, pace in self.runs:
            long = pace + [True] * 200
            self.assertEqual(story(asked, pace), story(asked, long))

    def test_readings_and_fetches_are_those_that_are_due(self):
        for asked, pace in self.runs:
            rows = story(asked, pace)
            due = [[cell for cell, number in seen] for seen in sights(asked)]
            self.assertEqual([row[2] for row in rows if row[1] == "read"], due[0])
            self.assertEqual([row[2] for row in rows if row[1] == "fetch"], due[1])

    def test_what_is_shut_off_all_around_is_seen_plainly(self):
        for asked, pace in self.runs:
            shut = fenced_all_around(asked)
            if len(shut[2]) > 60:
                continue
            rows = story(shut, pace)
            reads = [row[2:] for row in rows if row[1] == "read"]
            fetches = [row[2:] for row in rows if row[1] == "fetch"]
            self.assertEqual((reads, fetches), sights(asked_without_drops(asked)))
            self.assertEqual(ended(shut, pace)[:2], plain_end(shut))


def asked_without_drops(asked):
    memory, orders, program = asked
    return memory, orders, tuple(deed for deed in program if deed[0] != "drop")


if __name__ == "__main__":
    unittest.main()
