"""Notes: the text of a page, and the page of a text."""

from tabgrow.checks import LINE_END, TAB, check_page, first_misfit
from tabgrow.errors import BadText


def written(page):
    """Tell a page's text."""
    check_page(page)
    return LINE_END.join([TAB.join(row) for row in page])


def read(text):
    """Tell the page of a text."""
    if not isinstance(text, str):
        raise BadText(0)
    rows = rows_of(text)
    number = first_misfit(rows)
    if number is not None:
        raise BadText(number)
    return rows


def rows_of(text):
    """Tell the rows of a text, whether or not a page can have them."""
    return [tuple(line.split(TAB)) for line in text.split(LINE_END)]
