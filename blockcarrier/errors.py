"""The refusals: every one is a CarrierError, and none stands under another one."""


class CarrierError(ValueError):
    """Any refusal."""


class BadBoard(CarrierError):
    """A board that cannot be: in which part of it, and at which number there."""

    def __init__(self, word, number):
        super().__init__(f"{word} cannot be, at number {number}")
        self.word = word
        self.number = number


class BadFence(CarrierError):
    """A fence that cannot be put in: at which number of the list."""

    def __init__(self, number):
        super().__init__(f"fence {number} cannot be")
        self.number = number


class NotSure(CarrierError):
    """A board that is not sure even with all of its fences."""


class BadCount(CarrierError):
    """A count, of deeds or of fences, that is not served."""


class BadText(CarrierError):
    """A text that is not a board: at which row."""

    def __init__(self, row):
        super().__init__(f"row {row} cannot be")
        self.row = row
