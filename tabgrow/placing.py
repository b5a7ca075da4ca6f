"""Placing: the best place for a row, and the greatest gap for a width."""

from tabgrow.checks import FARTHEST, MOST_GAP, check_page, check_style, is_whole
from tabgrow.errors import BadCount
from tabgrow.laying import shown
from tabgrow.sheets import Sheet


def placed(page, style, row):
    """Tell (number, many): where put moves the fewest cells, and how many these are."""
    check_page(page)
    # The first put refuses the style, the row, and a page without room for it, in this order.
    moves = [many_moved(page, style, number, row) for number in range(len(page) + 1)]
    many = min(moves)
    return moves.index(many), many


def many_moved(page, style, number, row):
    """Tell how many cells move when a row is put ahead of the one of a number."""
    sheet = Sheet(page, style)
    return len(sheet.put(number, row))


def gap_within(page, least, most):
    """Tell the greatest gap by which no line is longer than so many signs, or None."""
    check_page(page)
    check_style((0, least))
    if not is_whole(most, 0, FARTHEST):
        raise BadCount("a number of signs is 0 to 200")
    # A greater gap may lead to a shorter line where the least holds the width, so each one is tried.
    for gap in range(MOST_GAP, -1, -1):
        if max(len(line) for line in shown(page, (gap, least))) <= most:
            return gap
    return None
