"""Boards written as texts, and texts read."""

import random
import re
import unittest

from blockcarrier.errors import (BadBoard, BadCount, BadFence, BadText, CarrierError, NotSure)
from blockcarrier.texts import read_board, written

from samples import CHAIN_ORDERS, EIGHT, EMPTY, SIXTY_FIGURES, board, shuffled_boards

FOUR = "memory 1 2 3 4"
NUMBER = r"(0|[1-9][0-9]{0,8})"
# What each row must look like, found without the program's own table of deeds.
ROWS = {
    "memory": rf"memory( {NUMBER})*",
    "order": rf"order {NUMBER} {NUMBER} {NUMBER} ({NUMBER}|-)",
    "deed": rf"(set|add) {NUMBER} {NUMBER}|(say|start|clean|drop) {NUMBER}|wait",
}
ALL_DEEDS = board(
    (0, 9, 8, 7, 6, 5, 4, 3), ((0, 4, 2, 1), (7, 0, 1, None)),
    ("set", 0, 9), ("add", 7, 0), ("say", 3), ("start", 1), ("wait",), ("clean", 0), ("drop", 1))
ALL_ROWS = "\n".join((
    "memory 0 9 8 7 6 5 4 3", "order 0 4 2 1", "order 7 0 1 -",
    "set 0 9", "add 7 0", "say 3", "start 1", "wait", "clean 0", "drop 1"))


def first_wrong_row(text):
    """The number of the first row that is not so, or None."""
    stage = 0
    for at, row in enumerate(text.split("\n")):
        kinds = [kind for kind, form in ROWS.items() if re.fullmatch(form, row, re.ASCII)]
        if not kinds or (kinds[0] == "memory") != (at == 0):
            return at
        if kinds[0] == "order" and stage == 2:
            return at
        stage = {"memory": 0, "order": 1, "deed": 2}[kinds[0]]
    return None


class Written(unittest.TestCase):
    def test_each_deed(self):
        self.assertEqual(written(ALL_DEEDS), ALL_ROWS)

    def test_no_orders_and_no_program(self):
        self.assertEqual(written(EMPTY), "memory 0 0 0 0")
        self.assertEqual(written(board(EIGHT, ())), "memory 1 2 3 4 5 6 7 8")

    def test_no_orders(self):
        self.assertEqual(written(board((1, 2, 3, 4), (), ("wait",), ("say", 0))),
                         "memory 1 2 3 4\nwait\nsay 0")

    def test_no_program(self):
        self.assertEqual(written(board((1, 2, 3, 4), ((0, 1, 3, None),))),
                         "memory 1 2 3 4\norder 0 1 3 -")

    def test_orders_with_and_without_a_later_one(self):
        self.assertEqual(written(board(EIGHT, CHAIN_ORDERS)),
                         "memory 1 2 3 4 5 6 7 8\norder 0 4 1 2\norder 1 5 1 -\n"
                         "order 2 6 1 3\norder 3 7 1 -")

    def test_numbers_of_two_figures(self):
        asked = board(EIGHT + EIGHT, ((15, 10, 1, None),), ("set", 12, 0), ("add", 10, 15))
        self.assertEqual(written(asked), "memory 1 2 3 4 5 6 7 8 1 2 3 4 5 6 7 8\n"
                                         "order 15 10 1 -\nset 12 0\nadd 10 15")

    def test_a_board_that_cannot_be_is_refused(self):
        for asked, word, number in (
                (board((1, 2), ()), "memory", 0),
                (board((1, 2, 3, SIXTY_FIGURES), ()), "memory", 3),
                (board(EIGHT, ((0, 0, 9, None),)), "orders", 0),
                (board(EIGHT, (), ("say", 0), ("say", -1)), "program", 1),
                (board(EIGHT, (), *[("wait",)] * 61), "program", 60)):
            with self.assertRaises(BadBoard) as caught:
                written(asked)
            self.assertEqual((caught.exception.word, caught.exception.number), (word, number))


class Read(unittest.TestCase):
    def test_each_deed(self):
        self.assertEqual(read_board(ALL_ROWS), ALL_DEEDS)

    def test_the_least(self):
        self.assertEqual(read_board("memory 0 0 0 0"), EMPTY)

    def test_orders_with_and_without_a_later_one(self):
        self.assertEqual(read_board(FOUR + "\norder 0 1 1 2\norder 0 1 2 -\norder 3 0 1 -"),
                         ((1, 2, 3, 4), ((0, 1, 1, 2), (0, 1, 2, None), (3, 0, 1, None)), ()))

    def test_what_is_written_is_read(self):
        chance = random.Random(61)
        for asked in shuffled_boards(chance, 300):
            text = written(asked)
            self.assertEqual(read_board(text), asked)
            self.assertEqual(written(read_board(text)), text)
            self.assertRegex(text, r"\A[ -~\n]*\Z")
            self.assertIsNone(first_wrong_row(text))

    def test_a_text_of_more_than_five_hundred_signs(self):
        asked = board(EIGHT + EIGHT, CHAIN_ORDERS, *[("add", 15, 14)] * 60)
        self.assertGreater(len(written(asked)), 500)
        self.assertEqual(read_board(written(asked)), asked)

    def test_the_kinds_of_what_is_told(self):
        told = read_board(ALL_ROWS)
        self.assertEqual([part.__class__ for part in (told, *told)], [tuple] * 4)
        self.assertEqual([part.__class__ for part in told[1] + told[2]], [tuple] * 9)
        self.assertEqual({part.__class__ for part in told[0]}, {int})


class BadTexts(unittest.TestCase):
    def refused(self, text, row):
        with self.subTest(text=text):
            self.assertEqual(first_wrong_row(text), row)
            with self.assertRaises(BadText) as caught:
                read_board(text)
            self.assertEqual(caught.exception.row, row)

    def test_what_is_refused_is_a_bad_text_and_nothing_else(self):
        with self.assertRaises(ValueError) as caught:
            read_board("")
        self.assertIs(caught.exception.__class__, BadText)
        self.assertIsInstance(caught.exception, CarrierError)
        for other in (BadBoard, BadFence, NotSure, BadCount):
            self.assertNotIsInstance(caught.exception, other)

    def test_the_empty_text(self):
        self.refused("", 0)

    def test_empty_rows(self):
        self.refused("\n", 0)
        self.refused("\n" + FOUR, 0)
        self.refused(FOUR + "\n\nwait", 1)
        self.refused(FOUR + "\nwait\n\nsay 0", 2)
        self.refused(FOUR + "\norder 0 1 1 -\n\nsay 0", 2)

    def test_line_ends_at_the_end(self):
        self.refused(FOUR + "\n", 1)
        self.refused(FOUR + "\n\n", 1)
        self.refused(ALL_ROWS + "\n", 10)
        self.refused(ALL_ROWS + "\n\n\n", 10)

    def test_a_blank_too_many(self):
        for at, row in enumerate(ALL_ROWS.split("\n")):
            rows = ALL_ROWS.split("\n")
            for wrong in (" " + row, row + " ", "  " + row, row + "  "):
                rows[at] = wrong
                self.refused("\n".join(rows), at)
            if " " in row:
                rows[at] = row.replace(" ", "  ", 1)
                self.refused("\n".join(rows), at)
        self.refused(FOUR + "\n ", 1)

    def test_a_blank_too_few(self):
        for at, row in enumerate(ALL_ROWS.split("\n")):
            if " " in row:
                rows = ALL_ROWS.split("\n")
                rows[at] = row.replace(" ", "", 1)
                self.refused("\n".join(rows), at)

    def test_other_signs_between(self):
        for sign in ("\t", "\r", ",", "-", "_", "\x0b", "\x0c", "\x1c"):
            self.refused(FOUR + f"\nsay{sign}0", 1)
        self.refused(FOUR + "\r\nsay 0", 0)
        self.refused(FOUR + "\rsay 0", 0)

    def test_needless_zeros(self):
        for number in ("00", "01", "007", "000000000"):
            self.refused(f"memory 1 2 3 {number}", 0)
            self.refused(f"memory {number} 2 3 4", 0)
            self.refused(FOUR + f"\norder 0 {number} 1 -", 1)
            self.refused(FOUR + f"\norder 0 0 1 {number}", 1)
            self.refused(FOUR + f"\nset 0 {number}", 1)
            self.refused(FOUR + f"\nsay {number}", 1)

    def test_what_is_no_number(self):
        for number in ("-1", "+1", "-0", "+0", "-", "--", "1-", "1.0", "1_0", "0x1", "1e1", "one",
                       "None", "a", "", "'1'", "(1)"):
            self.refused(f"memory 1 2 3 {number}", 0)
            self.refused(FOUR + f"\norder {number} 0 1 -", 1)
            self.refused(FOUR + f"\norder 0 {number} 1 -", 1)
            self.refused(FOUR + f"\norder 0 0 {number} -", 1)
            self.refused(FOUR + f"\nset {number} 0", 1)
            self.refused(FOUR + f"\nset 0 {number}", 1)
            self.refused(FOUR + f"\nadd 0 {number}", 1)
            for word in ("say", "start", "clean", "drop"):
                self.refused(FOUR + f"\n{word} {number}", 1)
            if number != "-":
                self.refused(FOUR + f"\norder 0 0 1 {number}", 1)

    def test_figures_of_other_scripts(self):
        for number in ("\u00b2", "\u0661", "\uff11"):
            self.refused(FOUR + f"\nsay {number}", 1)

    def test_ten_figures(self):
        for number in ("1000000000", "9999999999", "1234567890123456789012345"):
            self.refused(f"memory 1 2 3 {number}", 0)
            self.refused(FOUR + f"\norder 0 0 1 {number}", 1)
            self.refused(FOUR + f"\norder {number} 0 1 -", 1)
            self.refused(FOUR + f"\nset 0 {number}", 1)
            self.refused(FOUR + f"\ndrop {number}", 1)

    def test_unknown_words(self):
        for row in ("move 0", "SAY 0", "Say 0", "say0", "says 0", "sa 0", "fence", "orders 0 1 1 -",
                    "0", "-", "read 0", "write 0 1", "take 0", "fetch 0", "end", "#", "wait.",
                    "0 say", "Memory 1 2 3 4", "set,0,1"):
            self.refused(FOUR + f"\n{row}", 1)
        self.refused("Memory 1 2 3 4", 0)
        self.refused("memories 1 2 3 4", 0)
        self.refused("1 2 3 4", 0)

    def test_counts_of_words(self):
        counts = {"set": 2, "add": 2, "say": 1, "start": 1, "wait": 0, "clean": 1, "drop": 1,
                  "order": 4}
        for word, count in counts.items():
            for many in range(7):
                if many != count:
                    self.refused(FOUR + f"\n{word}" + " 0" * many, 1)
        for row in ("order 0 1 1", "order 0 1 -", "order 0 1 1 - -", "order 0 1 1 0 -",
                    "order -", "order", "wait -", "say -", "memory -"):
            self.refused(FOUR + f"\n{row}", 1)

    def test_memory_missing(self):
        self.refused("say 0", 0)
        self.refused("order 0 1 1 -\nsay 0", 0)
        self.refused("wait", 0)

    def test_memory_twice(self):
        self.refused(FOUR + "\n" + FOUR, 1)
        self.refused(FOUR + "\norder 0 1 1 -\n" + FOUR + "\nwait", 2)

    def test_memory_at_another_place(self):
        self.refused("order 0 1 1 -\n" + FOUR + "\nwait", 0)
        self.refused("wait\n" + FOUR, 0)
        self.refused(FOUR + "\nwait\nmemory", 2)

    def test_an_order_behind_a_deed(self):
        self.refused(FOUR + "\nwait\norder 0 1 1 -", 2)
        self.refused(FOUR + "\norder 0 1 1 -\nsay 0\nsay 1\norder 0 1 1 -\nwait", 4)

    def test_the_first_row_is_told(self):
        self.refused(FOUR + "\nsay\norder 0\n\nmemory", 1)
        self.refused(FOUR + "\nsay 0\norder 0 1 1 -\njump\n" + FOUR, 2)
        self.refused(FOUR + "\nsay 0\njump\norder 0 1 1 -\n" + FOUR, 2)
        self.refused(FOUR + "\nsay 0\nwait\n" + FOUR + "\norder 0 1 1 -", 3)
        self.refused("memory 1 2 3 x\n" + FOUR, 0)

    def test_texts_go_ahead_of_boards(self):
        self.refused("memory 10\nsay 99\nsay x", 2)
        self.refused("memory 10\norder 9 9 9 0\nsay 99\norder 0 1 1 -", 3)
        self.refused(FOUR + "\nwait" * 70 + "\n", 71)

    def test_changed_texts(self):
        chance = random.Random(62)
        counts = {"read": 0, "text": 0, "board": 0}
        for asked in shuffled_boards(chance, 1500):
            text = self.changed(chance, written(asked))
            row = first_wrong_row(text)
            try:
                told = read_board(text)
            except BadText as refused:
                self.assertEqual(refused.row, row, text)
                counts["text"] += 1
            except BadBoard:
                self.assertIsNone(row, text)
                counts["board"] += 1
            else:
                self.assertIsNone(row, text)
                self.assertEqual(written(told), text)
                counts["read"] += 1
        self.assertGreater(min(counts.values()), 50)

    def changed(self, chance, text):
        for _ in range(chance.randint(1, 2)):
            at = chance.randrange(len(text) + 1)
            sign = chance.choice("0123456789 -\nswx")
            how = chance.randrange(4)
            if how == 0:
                text = text[:at] + sign + text[at:]
            elif how == 1:
                text = text[:at] + text[at + 1:]
            elif how == 2:
                text = text[:at] + sign + text[at + 1:]
            else:
                rows = text.split("\n")
                row = rows.pop(chance.randrange(len(rows)))
                rows.insert(chance.randint(0, len(rows)), row)
                text = "\n".join(rows)
        return text


class BadBoards(unittest.TestCase):
    """Texts whose words are right, and whose board cannot be."""

    def refused(self, text, word, number):
        with self.subTest(text=text):
            self.assertIsNone(first_wrong_row(text))
            with self.assertRaises(BadBoard) as caught:
                read_board(text)
            self.assertEqual((caught.exception.word, caught.exception.number), (word, number))

    def test_memory(self):
        self.refused("memory 1 2 3", "memory", 0)
        self.refused("memory 1 2 3 4 5", "memory", 0)
        self.refused("memory" + " 1" * 20, "memory", 0)
        self.refused("memory 1 2 10 4", "memory", 2)
        self.refused("memory 1 2 3 999999999", "memory", 3)

    def test_memory_without_numbers(self):
        self.refused("memory", "memory", 0)
        self.refused("memory\nsay 0", "memory", 0)

    def test_orders(self):
        self.refused(FOUR + "\norder 0 1 1 -\norder 0 1 4 -", "orders", 1)
        self.refused(FOUR + "\norder 0 1 0 -", "orders", 0)
        self.refused(FOUR + "\norder 0 1 1 0", "orders", 0)
        self.refused(FOUR + "\norder 0 1 1 1", "orders", 0)
        self.refused(FOUR + "\norder 999999999 1 1 -", "orders", 0)
        self.refused(FOUR + "\norder 0 1 1 123456789", "orders", 0)
        self.refused(FOUR + "\norder 0 1 1 -" * 5, "orders", 4)

    def test_program(self):
        self.refused(FOUR + "\nwait\nsay 4", "program", 1)
        self.refused(FOUR + "\norder 0 1 1 -\nstart 1", "program", 0)
        self.refused(FOUR + "\norder 0 1 1 -" + "\nstart 0" * 4, "program", 3)
        self.refused(FOUR + "\nset 0 10", "program", 0)
        self.refused(FOUR + "\nset 0 100000000", "program", 0)
        self.refused(FOUR + "\nclean 1", "program", 0)
        self.refused(FOUR + "\nwait" * 61, "program", 60)
        self.assertEqual(len(read_board(FOUR + "\nwait" * 60)[2]), 60)

    def test_the_first_word_is_told(self):
        self.refused("memory 1\norder 9 9 9 0\nsay 99", "memory", 0)
        self.refused(FOUR + "\norder 9 9 9 0\nsay 99", "orders", 0)


if __name__ == "__main__":
    unittest.main()
