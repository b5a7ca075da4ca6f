"""The refusals of tabgrow: one class for each kind of thing that can't be."""


class GrowError(ValueError):
    """Any refusal."""


class BadPage(GrowError):
    """What is no page; row is the number of the first row that can't be."""

    def __init__(self, row):
        super().__init__(f"the page can't be from row {row} on")
        self.row = row


class BadStyle(GrowError):
    """What is no style."""


class BadRow(GrowError):
    """What is no row, or the number of none."""


class BadCell(GrowError):
    """What is no cell, no place of one, or no sign."""


class BadCount(GrowError):
    """A number of things that can't be."""


class BadHand(GrowError):
    """The number of no hand."""


class TooMuch(GrowError):
    """A deed behind which what is there were no page."""


class BadLines(GrowError):
    """What are no lines, or don't go with them; line is the number of the first that can't be."""

    def __init__(self, line):
        super().__init__(f"the lines can't be from line {line} on")
        self.line = line


class BadStep(GrowError):
    """What is no step; number is that of the first such."""

    def __init__(self, number):
        super().__init__(f"step {number} is none")
        self.number = number


class BadStroke(GrowError):
    """What is no stroke; number is that of the first such."""

    def __init__(self, number):
        super().__init__(f"stroke {number} is none")
        self.number = number


class BadText(GrowError):
    """What is no page's text; row is the number of the first row that can't be."""

    def __init__(self, row):
        super().__init__(f"the text can't be from row {row} on")
        self.row = row
