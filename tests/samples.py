"""Boards that several tests use."""

import itertools

from blockcarrier.judging import amiss

EIGHT = (1, 2, 3, 4, 5, 6, 7, 8)
SIXTY_FIGURES = 10 ** 60 - 1


def board(memory, orders, *program):
    return memory, orders, program


# The processor reads cells 0 and 1 in its line while the carrier moves 4 and 5 there.
RACE = board(EIGHT, ((4, 0, 2, None),),
             ("say", 0), ("start", 0), ("say", 0), ("say", 1))

# Order 0 is followed by 2, and 2 by 3; order 1 stands alone.
CHAIN_ORDERS = ((0, 4, 1, 2), (1, 5, 1, None), (2, 6, 1, 3), (3, 7, 1, None))

EMPTY = board((0, 0, 0, 0), ())


def shuffled_boards(chance, many):
    """Boards of all sizes that can be, made up by a seeded random.Random."""
    boards = []
    for _ in range(many):
        cells = chance.choice((4, 8, 12, 16))
        memory = tuple(chance.randrange(10) for _ in range(cells))
        orders = shuffled_orders(chance, cells)
        program = shuffled_program(chance, cells, len(orders))
        boards.append((memory, orders, program))
    return boards


def shuffled_orders(chance, cells):
    count = chance.randrange(5)
    orders = []
    for at in range(count):
        many = chance.randint(1, min(8, cells))
        later = chance.choice([None, *range(at + 1, count)])
        orders.append((chance.randint(0, cells - many), chance.randint(0, cells - many),
                       many, later))
    return tuple(orders)


def shuffled_program(chance, cells, orders):
    program = []
    starts = 0
    for _ in range(chance.randrange(14)):
        word = chance.choice(("set", "set", "add", "say", "say", "start", "start",
                              "wait", "clean", "drop"))
        if word == "start" and (starts == 3 or orders == 0):
            word = "wait"
        starts += word == "start"
        program.append({
            "set": (word, chance.randrange(cells), chance.randrange(10)),
            "add": (word, chance.randrange(cells), chance.randrange(cells)),
            "say": (word, chance.randrange(cells)),
            "start": (word, chance.randrange(max(orders, 1))),
            "wait": (word,),
            "clean": (word, chance.randrange(cells // 4)),
            "drop": (word, chance.randrange(cells // 4)),
        }[word])
    return tuple(program)


def shuffled_pace(chance):
    return [chance.random() < 0.5 for _ in range(chance.randrange(20))]


def all_paces(asked):
    """Every pace that can make a difference to a board, one by one."""
    used = sum(deed[0] != "wait" for deed in asked[2])
    return [list(pace) for pace in itertools.product((True, False), repeat=used)]


def sure_at_all_paces(asked):
    """Whether nothing is amiss, found by trying the paces one by one."""
    return not any(amiss(asked, pace) for pace in all_paces(asked))
