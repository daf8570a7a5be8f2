"""What holds of every function, and of every board at every pace."""

import copy
import random
import unittest

from blockcarrier.errors import BadBoard, BadCount, BadFence, BadText, CarrierError, NotSure
from blockcarrier.fences import fenced, fewest, fully, spare
from blockcarrier.judging import amiss, judged
from blockcarrier.plainly import plain_end, sights
from blockcarrier.running import ended, story
from blockcarrier.texts import read_board, written

from samples import EIGHT, RACE, board, shuffled_boards, shuffled_pace

# Each is handed a board, a pace and fences.
ASKED = {
    "story": lambda asked, pace, fences: story(asked, pace),
    "ended": lambda asked, pace, fences: ended(asked, pace),
    "plain_end": lambda asked, pace, fences: plain_end(asked),
    "sights": lambda asked, pace, fences: sights(asked),
    "amiss": lambda asked, pace, fences: amiss(asked, pace),
    "judged": lambda asked, pace, fences: judged(asked),
    "fenced": lambda asked, pace, fences: fenced(asked, fences),
    "fully": lambda asked, pace, fences: fully(asked),
    "spare": lambda asked, pace, fences: spare(asked, fences),
    "fewest": lambda asked, pace, fences: fewest(asked, 1),
    "written": lambda asked, pace, fences: written(asked),
    "read_board": lambda asked, pace, fences: read_board(written(asked)),
}
SHUT = [(1, ("clean", 0)), (1, ("clean", 1)), (2, ("wait",)), (2, ("drop", 0))]
REFUSED = (
    (BadBoard, lambda: story(((1, 2), (), ()), [False])),
    (BadBoard, lambda: judged((EIGHT, ((0, 0, 9, None),), ()))),
    (BadBoard, lambda: spare((EIGHT, (), (("set", 0, 1), ("jump",))), [])),
    (BadBoard, lambda: fenced((EIGHT, (), (("wait",),) * 60), [(0, ("wait",))])),
    (BadBoard, lambda: read_board("memory 1 2 3 4\nsay 4")),
    (BadFence, lambda: fenced(RACE, [(0, ("wait",)), (5, ("wait",))])),
    (BadFence, lambda: spare(RACE, SHUT * 8)),
    (NotSure, lambda: spare(RACE, SHUT[:3])),
    (BadCount, lambda: fewest(RACE, 3)),
    (BadCount, lambda: fewest((EIGHT, (), (("wait",),) * 6), 2)),
    (BadText, lambda: read_board("memory 1 2 3 4\nsay")),
)


def answer(function, *handed):
    """What a function tells, or the refusal with its values."""
    try:
        return function(*handed)
    except CarrierError as refused:
        return refused.__class__, vars(refused)


def shuffled_fences(chance, asked):
    """Fences that can be, and at times one that cannot."""
    memory, orders, program = asked
    lines = len(memory) // 4 + (chance.random() < 0.1)
    return [(chance.randint(0, len(program)),
             chance.choice((("wait",), ("clean", chance.randrange(lines)),
                            ("drop", chance.randrange(lines)))))
            for _ in range(chance.randrange(6))]


def changed(told):
    """Change all lists of what is told, from the inner ones on."""
    if told.__class__ in (list, tuple):
        for part in told:
            changed(part)
    if told.__class__ is list:
        told.reverse()
        told.append("changed")


def cells_of(orders, first):
    """What a start is due to move: ("fetch", source), ("put", goal) and ("bell", order)."""
    if first is None:
        return []
    source, goal, many, later = orders[first]
    due = []
    for step in range(many):
        due += [("fetch", source + step), ("put", goal + step)]
    return due + [("bell", first)] + cells_of(orders, later)


def fenced_all_around(asked):
    """A board without drops, with each start shut off from all that is around it."""
    memory, orders, program = asked
    lines = range(len(memory) // 4)
    deeds = []
    for deed in program:
        if deed[0] == "start":
            deeds += [("clean", line) for line in lines] + [deed, ("wait",)]
            deeds += [("drop", line) for line in lines]
        elif deed[0] != "drop":
            deeds.append(deed)
    return memory, orders, tuple(deeds)


class Asked(unittest.TestCase):
    def setUp(self):
        chance = random.Random(1)
        self.questions = [(asked, shuffled_pace(chance), shuffled_fences(chance, asked))
                          for asked in shuffled_boards(chance, 60)]
        self.questions.append((RACE, [False, True], SHUT))
        self.questions.append((board((1, 2, 3, 10), (), ("say", 9)), [True, False], SHUT))

    def test_nothing_handed_in_is_changed(self):
        for question in self.questions:
            before = copy.deepcopy(question)
            for function in ASKED.values():
                answer(function, *question)
                self.assertEqual(question, before)

    def test_what_is_handed_in_may_be_changed_later(self):
        for asked, pace, fences in self.questions:
            for function in ASKED.values():
                handed = list(pace), list(fences)
                told = answer(function, asked, *handed)
                before = copy.deepcopy(told)
                changed(handed)
                self.assertEqual(told, before)
                self.assertEqual(answer(function, asked, pace, fences), before)

    def test_what_is_told_is_new_each_time(self):
        for question in self.questions:
            for function in ASKED.values():
                told = answer(function, *question)
                before = copy.deepcopy(told)
                changed(told)
                self.assertEqual(answer(function, *question), before)

    def test_the_same_question_has_the_same_answer_whatever_was_asked_between(self):
        answers = [[answer(function, *question) for function in ASKED.values()]
                   for question in self.questions]
        for kind, refused in REFUSED:
            with self.assertRaises(kind):
                refused()
        again = [[answer(function, *question) for question in reversed(self.questions)]
                 for function in reversed(ASKED.values())]
        self.assertEqual([list(reversed(row)) for row in zip(*again)], list(reversed(answers)))

    def test_a_pace_may_be_changed_later(self):
        pace = [False, True, False]
        rows = story(RACE, pace)
        before = list(rows)
        pace.clear()
        self.assertEqual(rows, before)
        self.assertEqual(story(RACE, pace), story(RACE, []))
        self.assertNotEqual(before, story(RACE, pace))

    def test_a_pace_told_can_be_handed_in_again(self):
        word, pace, row = judged(RACE)
        self.assertEqual(amiss(RACE, pace)[0], row)
        changed(pace)
        self.assertEqual(judged(RACE)[2], row)

    def test_each_refusal_is_one_of_the_classes_alone(self):
        kinds = (BadBoard, BadFence, NotSure, BadCount, BadText)
        for kind, refused in REFUSED:
            with self.assertRaises(ValueError) as caught:
                refused()
            self.assertIsInstance(caught.exception, CarrierError)
            found = [other for other in kinds if isinstance(caught.exception, other)]
            self.assertEqual(found, [kind])


class EachPace(unittest.TestCase):
    def setUp(self):
        chance = random.Random(3)
        self.runs = [(asked, shuffled_pace(chance)) for asked in shuffled_boards(chance, 400)]

    def test_each_cell_is_moved_once_in_turn_and_each_bell_rings_once(self):
        for asked, pace in self.runs:
            memory, orders, program = asked
            due = []
            for deed in program:
                if deed[0] == "start":
                    due += cells_of(orders, deed[1])
            moved = [(word, place) for beat, word, place, number in story(asked, pace)
                     if word in ("fetch", "put", "bell")]
            self.assertEqual(moved, due)

    def test_one_cell_is_moved_in_a_beat_at_most(self):
        for asked, pace in self.runs:
            beats = [beat for beat, word, place, number in story(asked, pace) if word == "fetch"]
            self.assertEqual(beats, sorted(set(beats)))

    def test_beats_rise_and_ended_counts_them(self):
        for asked, pace in self.runs:
            said, memory, count = ended(asked, pace)
            beats = [row[0] for row in story(asked, pace)]
            self.assertEqual(beats, sorted(beats))
            self.assertLessEqual(max(beats, default=0), count)
            self.assertGreaterEqual(count, len(asked[2]))

    def test_ended_tells_what_the_story_says(self):
        for asked, pace in self.runs:
            said = [row[3] for row in story(asked, pace) if row[1] == "say"]
            self.assertEqual(ended(asked, pace)[0], tuple(said))

    def test_truths_left_over_say_nothing(self):
        for asked, pace in self.runs:
            long = pace + [True] * 200
            self.assertEqual(story(asked, pace), story(asked, long))

    def test_readings_and_fetches_are_those_that_are_due(self):
        for asked, pace in self.runs:
            rows = story(asked, pace)
            due = [[cell for cell, number in seen] for seen in sights(asked)]
            self.assertEqual([row[2] for row in rows if row[1] == "read"], due[0])
            self.assertEqual([row[2] for row in rows if row[1] == "fetch"], due[1])

    def test_what_is_shut_off_all_around_is_seen_plainly(self):
        for asked, pace in self.runs:
            shut = fenced_all_around(asked)
            if len(shut[2]) > 60:
                continue
            rows = story(shut, pace)
            reads = [row[2:] for row in rows if row[1] == "read"]
            fetches = [row[2:] for row in rows if row[1] == "fetch"]
            self.assertEqual((reads, fetches), sights(asked_without_drops(asked)))
            self.assertEqual(ended(shut, pace)[:2], plain_end(shut))


def asked_without_drops(asked):
    memory, orders, program = asked
    return memory, orders, tuple(deed for deed in program if deed[0] != "drop")


if __name__ == "__main__":
    unittest.main()
