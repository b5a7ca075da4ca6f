"""Sheets: a page that is changed deed by deed; each tells what it moves, and can be taken back."""

from tabgrow.checks import MOST_ROWS, TAB, check_page, check_row, check_style, is_filled, is_row, is_whole
from tabgrow.errors import BadCell, BadRow
from tabgrow.laying import laid


class Sheet:
    """A page in a style; each deed tells (row, cell, began, begins) of the cells of other rows that move."""

    def __init__(self, page, style):
        check_page(page)
        check_style(style)
        self.rows = list(page)
        self.style = style
        # Of each deed that stands: the row from which on it laid some, how many, and those that were there before.
        self.deeds = []

    def put(self, number, row):
        """Lay a row ahead of the one of that number, or behind the last."""
        check_number(number, len(self.rows))
        check_row(row)
        return self.lay(number, 0, [row])

    def take(self, number):
        """Take a row away."""
        check_number(number, len(self.rows) - 1)
        return self.lay(number, 1, [])

    def change(self, number, row):
        """Put another row in the place of one."""
        check_number(number, len(self.rows) - 1)
        check_row(row)
        return self.lay(number, 1, [row])

    def strike(self, number, cell, place, sign):
        """Put a sign into a cell at a place; a tab parts the cell there."""
        ahead, behind = halves(self.rows, number, cell, place)
        check_sign(sign)
        if sign == TAB:
            return self.lay(number, 1, [ahead + behind])
        return self.lay(number, 1, [joined(joined(ahead, (sign,)), behind)])

    def erase(self, number, cell, place):
        """Take the sign at a place of a cell away, or at its end the tab behind it."""
        ahead, behind = halves(self.rows, number, cell, place)
        return self.lay(number, 1, [joined(ahead, without_first(behind))])

    def part(self, number, cell, place):
        """Part a row at a place of a cell; what is behind is the next row."""
        ahead, behind = halves(self.rows, number, cell, place)
        return self.lay(number, 1, [ahead, behind])

    def unite(self, number):
        """Join the next row to a row."""
        # The last row has none behind it that could be joined.
        check_number(number, len(self.rows) - 2)
        return self.lay(number, 2, [joined(self.rows[number], self.rows[number + 1])])

    def back(self):
        """Take the last deed that stands back, and tell whether there was one."""
        if len(self.deeds) == 0:
            return False
        number, many, rows = self.deeds.pop()
        self.rows[number:number + many] = rows
        return True

    def page(self):
        """Tell the page."""
        return list(self.rows)

    def begins(self):
        """Tell where the cells of the page begin."""
        return laid(self.rows, self.style)

    def lay(self, number, many, rows):
        """Lay rows in the place of so many from a number on, and tell which cells of all others move."""
        check_fits(len(self.rows) - many + len(rows), rows)
        before = self.begins()
        self.deeds.append((number, len(rows), self.rows[number:number + many]))
        self.rows[number:number + many] = rows
        others = [(row, row) for row in range(number)]
        others += [(row, row - many + len(rows)) for row in range(number + many, len(before))]
        return moved(before, self.begins(), others)


def check_number(number, last):
    """Refuse what is no number of a row up to the last."""
    if not is_whole(number, 0, last):
        raise BadRow("there is no row of this number")


def check_sign(sign):
    """Refuse what is neither a sign nor a tab."""
    if sign != TAB and not is_filled(sign, 1):
        raise BadCell("a sign is a text of one, from the blank to the tilde but the percent sign, or a tab")


def check_fits(many, rows):
    """Refuse so many rows of a page, and what rows of cells outgrow a row."""
    if not 1 <= many <= MOST_ROWS:
        raise BadRow("a page has one to thirty rows")
    for row in rows:
        if not is_row(row):
            raise BadCell("a row has at most six cells, a cell at most ten signs")


def halves(rows, number, cell, place):
    """Tell the two rows into which a row is parted at a place of a cell."""
    check_number(number, len(rows) - 1)
    row = rows[number]
    if not is_whole(cell, 0, len(row) - 1):
        raise BadCell("there is no cell of this number")
    text = row[cell]
    if not is_whole(place, 0, len(text)):
        raise BadCell("there is no such place in the cell")
    return row[:cell] + (text[:place],), (text[place:],) + row[cell + 1:]


def joined(ahead, behind):
    """Tell the row in which the last cell of the one ahead and the first of the one behind are one."""
    return ahead[:-1] + (ahead[-1] + behind[0],) + behind[1:]


def without_first(row):
    """Tell a row without its first sign, or tab."""
    if row[0] != "":
        return (row[0][1:],) + row[1:]
    if len(row) == 1:
        raise BadCell("nothing is behind the last cell's last sign")
    return row[1:]


def moved(before, after, others):
    """Tell (row, cell, began, begins) of all cells that begin elsewhere, of rows by their numbers before and after."""
    told = []
    for was, row in others:
        for cell, (began, begins) in enumerate(zip(before[was], after[row])):
            if began != begins:
                told.append((row, cell, began, begins))
    return told
