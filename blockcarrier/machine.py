"""The machine: memory, the processor with the lines that it holds, and the carrier."""

from blockcarrier.boards import LINE, NUMBERS, moves_told


class Machine:
    """A board under way, with all that has happened so far."""

    def __init__(self, board):
        memory, orders, program = board
        self.memory = list(memory)
        self.orders = orders
        self.program = program
        self.deeds_done = 0
        self.held = [None] * (len(memory) // LINE)
        self.touched = [False] * (len(memory) // LINE)
        self.left = []
        self.beats = 0
        self.rows = []
        self.said = []

    def is_over(self):
        return self.deeds_done == len(self.program) and not self.left

    def do_next_deed(self):
        """The processor's part of a beat; tells whether it did a deed."""
        if self.deeds_done == len(self.program):
            return False
        deed = self.program[self.deeds_done]
        if deed[0] == "wait" and self.left:
            return False
        self.do_deed(deed)
        self.deeds_done += 1
        return True

    def do_deed(self, deed):
        match deed:
            case ("set", cell, number):
                self.write_cell(cell, number)
            case ("add", cell, other):
                seen = self.read_cell(cell)
                self.write_cell(cell, (seen + self.read_cell(other)) % NUMBERS)
            case ("say", cell):
                seen = self.read_cell(cell)
                self.said.append(seen)
                self.tell("say", cell, seen)
            case ("start", order):
                self.tell("start", order, 0)
                self.left.extend(moves_told(self.orders, order))
            case ("clean", line):
                self.clean_line(line)
            case ("drop", line):
                self.drop_line(line)

    def move_one(self):
        """The carrier's part of a beat in which it moves."""
        source, goal, bell = self.left.pop(0)
        number = self.memory[source]
        self.tell("fetch", source, number)
        self.memory[goal] = number
        self.tell("put", goal, number)
        if bell is not None:
            self.tell("bell", bell, 0)

    def end_beat(self):
        self.beats += 1

    def clean_all(self):
        for line in range(len(self.held)):
            self.clean_line(line)

    def line_of(self, cell):
        """The held line of a cell, which is taken first if it is not held."""
        line = cell // LINE
        if self.held[line] is None:
            first = line * LINE
            self.held[line] = self.memory[first:first + LINE]
            self.tell("take", line, 0)
        return self.held[line]

    def read_cell(self, cell):
        number = self.line_of(cell)[cell % LINE]
        self.tell("read", cell, number)
        return number

    def write_cell(self, cell, number):
        self.line_of(cell)[cell % LINE] = number
        self.touched[cell // LINE] = True
        self.tell("write", cell, number)

    def clean_line(self, line):
        if self.touched[line]:
            first = line * LINE
            self.memory[first:first + LINE] = self.held[line]
            self.touched[line] = False
            self.tell("clean", line, 0)

    def drop_line(self, line):
        if self.held[line] is not None:
            self.held[line] = None
            self.touched[line] = False
            self.tell("drop", line, 0)

    def tell(self, word, place, number):
        self.rows.append((self.beats, word, place, number))
