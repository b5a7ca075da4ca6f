"""Cursors: a place in a sheet at which signs are pressed and rubbed."""

from tabgrow.checks import LINE_END
from tabgrow.errors import BadCell
from tabgrow.sheets import Sheet

FIRST = (0, 0, 0)


class Cursor:
    """A cursor in a sheet of its own; spot is the (row, cell, place) at which it stands."""

    def __init__(self, page, style):
        self.sheet = Sheet(page, style)
        self.spot = FIRST

    def at(self):
        """Tell the (row, cell, place) at which it stands."""
        return self.spot

    def aside(self):
        """Tell how far from the left it stands."""
        row, cell, place = self.spot
        return self.sheet.begins()[row][cell] + place

    def left(self):
        """Go a place back, and tell whether it went."""
        return self.step(-1)

    def right(self):
        """Go a place on, and tell whether it went."""
        return self.step(1)

    def up(self):
        """Go to the row above, and tell whether it went."""
        return self.climb(-1)

    def down(self):
        """Go to the row below, and tell whether it went."""
        return self.climb(1)

    def press(self, sign):
        """Put a sign, a tab or a line's end where it stands, and stand behind it."""
        row, cell, place = self.spot
        if sign == LINE_END:
            self.sheet.part(row, cell, place)
        else:
            self.sheet.strike(row, cell, place, sign)
        # Whatever was put, the place behind it is the next one of the page.
        self.step(1)

    def rub(self):
        """Take away what is ahead, a sign, a tab or a row's end, and stand where it was."""
        spot = self.beside(-1)
        if spot is None:
            raise BadCell("nothing is ahead of the page's begin")
        row, cell, place = spot
        if row < self.spot[0]:
            self.sheet.unite(row)
        else:
            self.sheet.erase(row, cell, place)
        self.spot = spot

    def back(self):
        """Take the last deed that stands back, tell whether there was one, and stand at the page's begin."""
        self.spot = FIRST
        return self.sheet.back()

    def page(self):
        """Tell the page."""
        return self.sheet.page()

    def step(self, by):
        """Go so many places on, and tell whether it went."""
        spot = self.beside(by)
        if spot is None:
            return False
        self.spot = spot
        return True

    def beside(self, by):
        """Tell the spot so many places on, or None."""
        spots = page_spots(self.sheet.page())
        number = spots.index(self.spot) + by
        if 0 <= number < len(spots):
            return spots[number]
        return None

    def climb(self, by):
        """Go so many rows down, to the last place that is no farther from the left, and tell whether it went."""
        row = self.spot[0] + by
        page = self.sheet.page()
        if not 0 <= row < len(page):
            return False
        most = self.aside()
        begins = self.sheet.begins()[row]
        near = [(cell, place) for cell, place in row_spots(page[row]) if begins[cell] + place <= most]
        # Where the first cell stands to the right, the row's begin itself may be farther than that.
        cell, place = near[-1] if len(near) > 0 else (0, 0)
        self.spot = (row, cell, place)
        return True


def row_spots(row):
    """Tell the (cell, place) of all places of a row, in turn."""
    return [(cell, place) for cell, text in enumerate(row) for place in range(len(text) + 1)]


def page_spots(page):
    """Tell the (row, cell, place) of all places of a page, in turn."""
    return [(number, cell, place) for number, row in enumerate(page) for cell, place in row_spots(row)]
