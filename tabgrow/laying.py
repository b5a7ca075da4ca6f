"""Laying: where the cells of a page lie, and how its lines are read back."""

from tabgrow.checks import are_left_ends, are_places, check_lines, check_lists
from tabgrow.stretches import stretches


def stops(page, style):
    """Tell the left ends of each row's cells."""
    return [left_ends(closed) for closed in closed_cells(page, style)]


def laid(page, style):
    """Tell where each row's cells begin."""
    # Nothing of the style is read before the stretches have checked it.
    rows = closed_cells(page, style)
    gap = style[0]
    return [begins_of(row, closed, gap) for row, closed in zip(page, rows)]


def shown(page, style):
    """Tell the lines of a page."""
    return [line_of(row, begins) for row, begins in zip(page, laid(page, style))]


def read_back(lines, told):
    """Tell the rows that stand in lines with these left ends."""
    check_lines(lines)
    check_lists(told, len(lines), lambda line, places: are_left_ends(places))
    return [cut(line, ends) for line, ends in zip(lines, told)]


def guessed(lines):
    """Tell the rows of lines, parted wherever two blanks or more stand."""
    check_lines(lines)
    return [parted(line) for line in lines]


def judged(page, style, told):
    """Tell the first (row, cell) that doesn't begin where it is told to, or None."""
    rows = laid(page, style)
    check_lists(told, len(page), lambda row, places: are_places(places) and len(places) == len(page[row]))
    for row, begins in enumerate(rows):
        for cell, begin in enumerate(begins):
            if told[row][cell] != begin:
                return row, cell
    return None


def closed_cells(page, style):
    """Tell of each row the (width, right) of the stretches of its closed cells, in turn."""
    found = stretches(page, style)
    rows = [[] for row in page]
    # They come by columns, and no closed cell of a row is without one, so each row's are in turn.
    for column, begin, end, width, right, holders in found:
        for number in range(begin, end):
            rows[number].append((width, right))
    return rows


def left_ends(closed):
    """Tell the left ends of a row's cells from the (width, right) of its closed ones."""
    ends = [0]
    for width, right in closed:
        ends.append(ends[-1] + width)
    return ends


def begins_of(row, closed, gap):
    """Tell where a row's cells begin."""
    ends = left_ends(closed)
    begins = list(ends)
    for number, (width, right) in enumerate(closed):
        if right:
            begins[number] = ends[number + 1] - gap - len(row[number])
    return begins


def line_of(row, begins):
    """Tell the line of a row whose cells begin there."""
    line = ""
    for cell, begin in zip(row, begins):
        # An empty cell has no sign to show, so no blanks are put ahead of it.
        if cell != "":
            line = line.ljust(begin) + cell
    return line


def cut(line, ends):
    """Tell the row that stands in a line from each left end up to the next one."""
    behind = ends[1:] + [len(line)]
    return tuple([line[begin:end].strip(" ") for begin, end in zip(ends, behind)])


def parted(line):
    """Tell the row that a line is parted into without left ends."""
    cells = [piece.strip(" ") for piece in line.split("  ")]
    filled = tuple([cell for cell in cells if cell != ""])
    if len(filled) == 0:
        return ("",)
    return filled
