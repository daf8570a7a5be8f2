"""Texts: boards written as rows of words, and read back."""

from blockcarrier.boards import DEEDS, require_board
from blockcarrier.errors import BadText

MOST_FIGURES = 9
ORDER_NUMBERS = 4


def written(board):
    """The text of a board."""
    require_board(board)
    memory, orders, program = board
    rows = [row_of("memory", memory)]
    rows.extend([row_of("order", order) for order in orders])
    rows.extend([row_of(deed[0], deed[1:]) for deed in program])
    return "\n".join(rows)


def row_of(word, numbers):
    words = [word]
    for number in numbers:
        words.append("-" if number is None else str(number))
    return " ".join(words)


def read_board(text):
    """The board that a text tells."""
    memory = ()
    orders = []
    program = []
    for at, row in enumerate(text.split("\n")):
        word, *words = row.split(" ")
        if not words_are_so(word, words) or (word == "memory") != (at == 0):
            raise BadText(at)
        numbers = tuple([number_of(figures) for figures in words])
        if word == "memory":
            memory = numbers
        elif word != "order":
            program.append((word, *numbers))
        elif program:
            raise BadText(at)
        else:
            orders.append(numbers)
    board = (memory, tuple(orders), tuple(program))
    require_board(board)
    return board


def words_are_so(word, words):
    """Whether such words can stand behind the first one of a row."""
    if word == "order":
        if len(words) != ORDER_NUMBERS:
            return False
        return all_are_numbers(words[:-1]) and (words[-1] == "-" or is_number(words[-1]))
    if word == "memory":
        return all_are_numbers(words)
    return word in DEEDS and len(words) == len(DEEDS[word]) and all_are_numbers(words)


def all_are_numbers(words):
    return all([is_number(word) for word in words])


def is_number(word):
    """Whether a word is a number by figures, without a needless 0."""
    if not word.isascii() or not word.isdigit() or len(word) > MOST_FIGURES:
        return False
    return word == "0" or word[0] != "0"


def number_of(figures):
    return None if figures == "-" else int(figures)
