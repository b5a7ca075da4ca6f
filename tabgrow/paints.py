"""Paints: the strokes by which lines become later ones, and lines with strokes laid on them."""

from tabgrow.checks import FARTHEST, MOST_LINES, check_lines, is_filled, is_whole
from tabgrow.errors import BadStroke

# So many signs that are alike between two that differ don't end a stroke.
MOST_ALIKE = 2


def strokes(before, later):
    """Tell the strokes by which lines become later ones, in turn."""
    check_lines(before)
    check_lines(later)
    told = []
    for number in range(max(len(before), len(later))):
        old = line_at(before, number)
        new = line_at(later, number)
        # What a line lacks of the other one is blanks.
        old = old.ljust(len(new))
        new = new.ljust(len(old))
        told += [(number, begin, new[begin:end]) for begin, end in unlike_runs(old, new)]
    return told


def painted(lines, drawn):
    """Tell lines with strokes laid on them in turn, without blanks at their ends."""
    check_lines(lines)
    check_strokes(drawn)
    told = list(lines)
    for number, begin, signs in drawn:
        while len(told) <= number:
            told.append("")
        told[number] = covered(told[number], begin, signs)
    return [line.rstrip(" ") for line in told]


def line_at(lines, number):
    """Tell the line of that number, an empty one if there is none."""
    if number < len(lines):
        return lines[number]
    return ""


def unlike_runs(old, new):
    """Tell (begin, end) of the strokes between two texts that are as long."""
    runs = []
    for place, (sign, other) in enumerate(zip(old, new)):
        if sign == other:
            continue
        if len(runs) > 0 and place - runs[-1][1] <= MOST_ALIKE:
            runs[-1] = (runs[-1][0], place + 1)
        else:
            runs.append((place, place + 1))
    return runs


def covered(line, begin, signs):
    """Tell a line with signs laid on it from a begin on."""
    return line[:begin].ljust(begin) + signs + line[begin + len(signs):]


def check_strokes(drawn):
    """Refuse what are no strokes."""
    if not isinstance(drawn, list):
        raise BadStroke(0)
    for number, stroke in enumerate(drawn):
        if not is_stroke(stroke):
            raise BadStroke(number)


def is_stroke(value):
    """Tell whether a value is a stroke."""
    if not isinstance(value, tuple) or len(value) != 3:
        return False
    number, begin, signs = value
    if not is_whole(number, 0, MOST_LINES - 1) or not is_filled(signs, FARTHEST):
        return False
    return is_whole(begin, 0, FARTHEST - len(signs))
