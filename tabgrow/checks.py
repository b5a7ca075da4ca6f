"""What pages, rows, styles and lines can be, and the refusal of all else."""

from tabgrow.errors import BadLines, BadPage, BadRow, BadStyle

MOST_ROWS = 30
MOST_CELLS = 6
MOST_SIGNS = 10
MOST_GAP = 4
MOST_LEAST = 12
MOST_LINES = 30
FARTHEST = 200
BLANK = 32
TILDE = 126
# The percent sign is no sign, and it may not stand in a string of the program.
PERCENT = 37
TAB = "\t"
LINE_END = "\n"


def is_whole(value, low, high):
    """Tell whether a value is a whole number from low to high."""
    # Python counts True and False among the numbers; the document does not.
    return isinstance(value, int) and not isinstance(value, bool) and low <= value <= high


def is_sign(sign):
    """Tell whether one character of a text is a sign."""
    return BLANK <= ord(sign) <= TILDE and ord(sign) != PERCENT


def is_text_of_signs(value, most):
    """Tell whether a value is a text of at most so many signs."""
    return isinstance(value, str) and len(value) <= most and all(is_sign(sign) for sign in value)


def is_filled(value, most):
    """Tell whether a value is a text of at most so many signs, and of one at least."""
    return is_text_of_signs(value, most) and value != ""


def is_row(value):
    """Tell whether a value is a row."""
    if not isinstance(value, tuple) or not 1 <= len(value) <= MOST_CELLS:
        return False
    return all(is_text_of_signs(cell, MOST_SIGNS) for cell in value)


def first_misfit(rows):
    """Tell the number of the first of some rows that a page can't have, or None."""
    for number, row in enumerate(rows):
        if number == MOST_ROWS or not is_row(row):
            return number
    return None


def check_page(page):
    """Refuse what is no page."""
    if not isinstance(page, list) or len(page) == 0:
        raise BadPage(0)
    number = first_misfit(page)
    if number is not None:
        raise BadPage(number)


def check_row(row):
    """Refuse what is no row."""
    if not is_row(row):
        raise BadRow("a row is a tuple of one to six cells")


def check_style(style):
    """Refuse what is no style."""
    if not isinstance(style, tuple) or len(style) != 2:
        raise BadStyle("a style is a tuple of a gap and a least")
    gap, least = style
    if not is_whole(gap, 0, MOST_GAP) or not is_whole(least, 0, MOST_LEAST):
        raise BadStyle("a gap is 0 to 4, a least 0 to 12")


def check_lines(lines):
    """Refuse what are no lines."""
    if not isinstance(lines, list):
        raise BadLines(0)
    for number, line in enumerate(lines):
        if number == MOST_LINES or not is_text_of_signs(line, FARTHEST):
            raise BadLines(number)


def are_places(value):
    """Tell whether a value is a list of places in a line."""
    return isinstance(value, list) and all(is_whole(place, 0, FARTHEST) for place in value)


def are_left_ends(value):
    """Tell whether a value is a list of a line's left ends, the first of which is 0."""
    return are_places(value) and value[:1] == [0] and value == sorted(value)


def check_lists(told, many, fits):
    """Refuse what is no list of so many lists, each of which fits by its number."""
    if not isinstance(told, list):
        raise BadLines(0)
    for number in range(many):
        if number >= len(told) or not fits(number, told[number]):
            raise BadLines(number)
    if len(told) > many:
        raise BadLines(many)
