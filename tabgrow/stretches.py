"""Stretches: neighbouring rows that share the tab of a column."""

from tabgrow.checks import check_page, check_style


def stretches(page, style):
    """Tell (column, begin, end, width, right, holders) of all stretches, by columns, then rows."""
    check_page(page)
    check_style(style)
    told = []
    for column in range(max(len(row) for row in page)):
        for begin, end in closed_runs(page, column):
            told.append(described(page, style, column, begin, end))
    return told


def closed_runs(page, column):
    """Tell (begin, end) of all rows of neighbouring rows that are closed in a column."""
    runs = []
    begin = 0
    while begin < len(page):
        end = begin
        while end < len(page) and is_closed(page[end], column):
            end += 1
        if end > begin:
            runs.append((begin, end))
        # The row at end is known not to be closed, so nothing begins there.
        begin = end + 1
    return runs


def is_closed(row, column):
    """Tell whether a row has a cell behind the one in a column."""
    return column + 1 < len(row)


def described(page, style, column, begin, end):
    """Tell all of the stretch of a column that has the rows from begin up to ahead of end."""
    gap, least = style
    cells = [row[column] for row in page[begin:end]]
    longest = max(len(cell) for cell in cells)
    holders = []
    if longest + gap > least:
        holders = [begin + at for at, cell in enumerate(cells) if len(cell) == longest]
    return column, begin, end, max(longest + gap, least), stands_right(cells), holders


def stands_right(cells):
    """Tell whether a stretch of these cells stands to the right."""
    filled = [cell for cell in cells if cell != ""]
    return len(filled) > 0 and all(is_figures(cell) for cell in filled)


def is_figures(cell):
    """Tell whether a cell is figures, perhaps behind a single minus."""
    if cell.startswith("-"):
        return cell[1:].isdigit()
    return cell.isdigit()
