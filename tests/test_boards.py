"""Boards that can be and boards that cannot, for every function that is handed one."""

import unittest

from blockcarrier.errors import BadBoard, BadCount, BadFence, BadText, CarrierError, NotSure
from blockcarrier.fences import fenced, fewest, fully, spare
from blockcarrier.judging import amiss, judged
from blockcarrier.plainly import plain_end, sights
from blockcarrier.running import ended, story
from blockcarrier.texts import written

from samples import EIGHT, SIXTY_FIGURES, board

# Those that serve every board that can be.
SERVING = {
    "story": lambda asked: story(asked, []),
    "ended": lambda asked: ended(asked, [True]),
    "plain_end": plain_end,
    "sights": sights,
    "amiss": lambda asked: amiss(asked, [False]),
    "judged": judged,
    "fenced": lambda asked: fenced(asked, []),
    "fully": fully,
    "written": written,
}
# A board that cannot be goes ahead of fences and counts that cannot be.
ASKED = {
    **SERVING,
    "fenced with a bad fence": lambda asked: fenced(asked, [(-1, ("jump",))]),
    "fenced with a 31st fence": lambda asked: fenced(asked, [(0, ("wait",))] * 31),
    "spare": lambda asked: spare(asked, []),
    "spare with a bad fence": lambda asked: spare(asked, [(SIXTY_FIGURES, ("set", 0, 0))]),
    "fewest": lambda asked: fewest(asked, 0),
    "fewest with a bad count": lambda asked: fewest(asked, -1),
}
SIXTEEN = EIGHT + EIGHT
ORDER = (0, 4, 1, None)
START = ("start", 0)
SAY = ("say", 0)


class Boards(unittest.TestCase):
    def refused(self, asked, word, number):
        for name, function in ASKED.items():
            with self.subTest(function=name, board=asked):
                with self.assertRaises(BadBoard) as caught:
                    function(asked)
                told = (caught.exception.word, caught.exception.number)
                self.assertEqual(told, (word, number))

    def served(self, asked):
        for name, function in SERVING.items():
            with self.subTest(function=name, board=asked):
                function(asked)

    def test_what_is_refused_is_a_bad_board_and_nothing_else(self):
        for name, function in ASKED.items():
            with self.subTest(function=name):
                with self.assertRaises(ValueError) as caught:
                    function(board((1,), ()))
                self.assertIs(caught.exception.__class__, BadBoard)
                self.assertIsInstance(caught.exception, CarrierError)
                for other in (BadFence, NotSure, BadCount, BadText):
                    self.assertNotIsInstance(caught.exception, other)


class Memory(Boards):
    def test_counts_of_cells(self):
        for cells in range(18):
            memory = tuple([1] * cells)
            if cells in (4, 8, 12, 16):
                self.served(board(memory, ()))
            else:
                self.refused(board(memory, ()), "memory", 0)
        self.refused(board(tuple([0] * 20), ()), "memory", 0)
        self.refused(board(tuple([0] * 100), ()), "memory", 0)

    def test_numbers_in_cells(self):
        self.served(board((0, 9, 0, 9), ()))
        self.refused(board((10, 0, 0, 0), ()), "memory", 0)
        self.refused(board((0, 0, 0, 10), ()), "memory", 3)
        self.refused(board((0, 0, -1, 0), ()), "memory", 2)
        self.refused(board((0, SIXTY_FIGURES, 0, 0), ()), "memory", 1)
        self.refused(board((0, 0, 0, -SIXTY_FIGURES), ()), "memory", 3)

    def test_the_first_cell_is_told(self):
        self.refused(board((0, 10, -1, 10), ()), "memory", 1)
        self.refused(board(SIXTEEN[:13] + (11, 3, 12), ()), "memory", 13)

    def test_another_count_is_told_as_0_whatever_the_cells(self):
        self.refused(board((0, 0, 0, 0, 10), ()), "memory", 0)


class Orders(Boards):
    def refused_order(self, order, memory=SIXTEEN):
        self.refused(board(memory, (order,)), "orders", 0)
        self.refused(board(memory, (ORDER, ORDER, order)), "orders", 2)

    def test_counts_of_orders(self):
        for many in range(5):
            self.served(board(EIGHT, (ORDER,) * many))
        for many in (5, 6, 100):
            self.refused(board(EIGHT, (ORDER,) * many), "orders", 4)

    def test_a_fifth_order_that_cannot_be(self):
        self.refused(board(EIGHT, (ORDER,) * 4 + ((0, 0, 9, None),)), "orders", 4)
        self.refused(board(EIGHT, (ORDER,) * 3 + ((0, 0, 9, None), ORDER)), "orders", 3)

    def test_a_fifth_order_is_a_later_one(self):
        self.refused(board(EIGHT, ((0, 4, 1, 4),) + (ORDER,) * 4), "orders", 4)

    def test_how_many_are_moved(self):
        for many in range(1, 9):
            self.served(board(SIXTEEN, ((0, 8, many, None),)))
        for many in (0, -1, 9, 16, SIXTY_FIGURES, -SIXTY_FIGURES):
            self.refused_order((0, 0, many, None))

    def test_all_cells_are_in_memory(self):
        self.served(board(EIGHT, ((0, 0, 8, None),)))
        self.served(board(EIGHT, ((7, 7, 1, None),)))
        self.served(board(SIXTEEN, ((8, 0, 8, None), (0, 8, 8, None))))
        for order in ((8, 0, 1, None), (0, 8, 1, None), (7, 0, 2, None), (0, 7, 2, None),
                      (1, 0, 8, None), (0, 1, 8, None), (-1, 0, 1, None), (0, -1, 1, None),
                      (-1, 0, 2, None), (0, -1, 2, None), (SIXTY_FIGURES, 0, 1, None),
                      (0, -SIXTY_FIGURES, 1, None)):
            self.refused_order(order, memory=EIGHT)

    def test_later_orders(self):
        self.served(board(EIGHT, ((0, 4, 1, 1), (0, 4, 1, 2), (0, 4, 1, 3), ORDER)))
        self.served(board(EIGHT, ((0, 4, 1, 3), (0, 4, 1, 3), (0, 4, 1, 3), ORDER)))
        self.refused(board(EIGHT, ((0, 4, 1, 0), ORDER)), "orders", 0)
        self.refused(board(EIGHT, ((0, 4, 1, 2), ORDER)), "orders", 0)
        self.refused(board(EIGHT, ((0, 4, 1, -1), ORDER)), "orders", 0)
        self.refused(board(EIGHT, (ORDER, (0, 4, 1, 1))), "orders", 1)
        self.refused(board(EIGHT, (ORDER, (0, 4, 1, 0))), "orders", 1)
        self.refused(board(EIGHT, (ORDER, (0, 4, 1, 2))), "orders", 1)
        self.refused(board(EIGHT, (ORDER, (0, 4, 1, SIXTY_FIGURES))), "orders", 1)

    def test_an_order_that_is_not_started_must_be_one_too(self):
        self.refused(board(EIGHT, (ORDER, (0, 4, 9, None)), START), "orders", 1)

    def test_the_first_order_is_told(self):
        wrong = (0, 4, 0, None)
        self.refused(board(EIGHT, (ORDER, wrong, ORDER, wrong)), "orders", 1)


class Programs(Boards):
    def refused_deed(self, deed):
        self.refused(board(EIGHT, (ORDER, ORDER), deed), "program", 0)
        self.refused(board(EIGHT, (ORDER, ORDER), START, SAY, deed, SAY), "program", 2)

    def test_each_deed_at_its_bounds(self):
        self.served(board(
            EIGHT, (ORDER, ORDER),
            ("set", 0, 0), ("set", 7, 9), ("add", 0, 7), ("add", 7, 0), ("say", 0), ("say", 7),
            ("start", 0), ("start", 1), ("wait",), ("clean", 0), ("clean", 1),
            ("drop", 0), ("drop", 1)))

    def test_numbers_of_deeds(self):
        for deed in (("set", 8, 0), ("set", -1, 0), ("set", 0, 10), ("set", 0, -1),
                     ("add", 8, 0), ("add", -1, 0), ("add", 0, 8), ("add", 0, -1),
                     ("say", 8), ("say", -1), ("start", 2), ("start", -1),
                     ("clean", 2), ("clean", -1), ("drop", 2), ("drop", -1)):
            self.refused_deed(deed)

    def test_numbers_of_sixty_figures(self):
        for number in (SIXTY_FIGURES, -SIXTY_FIGURES):
            for deed in (("set", number, 0), ("set", 0, number), ("add", number, 0),
                         ("add", 0, number), ("say", number), ("start", number),
                         ("clean", number), ("drop", number)):
                self.refused_deed(deed)

    def test_words_of_deeds(self):
        for word in ("", "SET", "set ", "sets", "move", "fence", "memory", "order", "-"):
            for numbers in ((), (0,), (0, 0), (0, 0, 0)):
                self.refused_deed((word, *numbers))

    def test_counts_of_numbers_in_deeds(self):
        counts = {"set": 2, "add": 2, "say": 1, "start": 1, "wait": 0, "clean": 1, "drop": 1}
        for word, count in counts.items():
            for many in range(4):
                if many == count:
                    self.served(board(EIGHT, (ORDER,), (word,) + (0,) * many))
                else:
                    self.refused_deed((word,) + (0,) * many)

    def test_there_is_no_order_to_start(self):
        self.refused(board(EIGHT, (), SAY, START), "program", 1)

    def test_counts_of_deeds(self):
        self.served(board(EIGHT, (ORDER,), *[SAY] * 60))
        for many in (61, 62, 100):
            self.refused(board(EIGHT, (ORDER,), *[SAY] * many), "program", 60)

    def test_a_61st_deed_among_other_faults(self):
        wrong = ("say", 8)
        self.refused(board(EIGHT, (), *[SAY] * 60, wrong), "program", 60)
        self.refused(board(EIGHT, (), *[SAY] * 59, wrong, SAY), "program", 59)
        self.refused(board(EIGHT, (), *[SAY] * 61, wrong), "program", 60)

    def test_counts_of_starts(self):
        for many in range(4):
            self.served(board(EIGHT, (ORDER,), *[START] * many))
        self.refused(board(EIGHT, (ORDER,), *[START] * 4), "program", 3)
        self.refused(board(EIGHT, (ORDER,), *[START] * 6), "program", 3)

    def test_the_fourth_start_is_told_where_it_stands(self):
        deeds = (SAY, START, SAY, START, SAY, START, SAY, SAY, START, START)
        self.refused(board(EIGHT, (ORDER,), *deeds), "program", 8)
        self.refused(board(EIGHT, (ORDER, ORDER), *[START, ("start", 1)] * 2), "program", 3)

    def test_a_fourth_start_among_other_faults(self):
        wrong = ("say", 8)
        self.refused(board(EIGHT, (ORDER,), *[START] * 3, wrong, START), "program", 3)
        self.refused(board(EIGHT, (ORDER,), *[START] * 4, wrong), "program", 3)
        self.refused(board(EIGHT, (ORDER,), *[START] * 3, *[SAY] * 57, START), "program", 60)

    def test_the_first_deed_is_told(self):
        self.refused(board(EIGHT, (), SAY, ("say", 9), ("drop", 7)), "program", 1)


class FirstWord(Boards):
    def test_memory_then_orders_then_program(self):
        wrong_memory = (1, 2, 10, 4)
        wrong_orders = ((0, 0, 1, None), (0, 0, 9, None))
        wrong_deeds = (("wait",), ("wait",), ("wait",), ("jump",))
        self.refused(board(wrong_memory, wrong_orders, *wrong_deeds), "memory", 2)
        self.refused(board((1, 2), wrong_orders, *wrong_deeds), "memory", 0)
        self.refused(board(EIGHT, wrong_orders, *wrong_deeds), "orders", 1)
        self.refused(board(EIGHT, (ORDER,) * 5, *wrong_deeds), "orders", 4)
        self.refused(board(EIGHT, (ORDER,), *wrong_deeds), "program", 3)

    def test_a_board_goes_ahead_of_its_pace(self):
        for pace in ([], [False], [True] * 100):
            for function in (story, ended):
                with self.assertRaises(BadBoard):
                    function(board((1, 2), ()), pace)


if __name__ == "__main__":
    unittest.main()
