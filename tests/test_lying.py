"""[5] and [6]: left ends, where cells begin, and the lines of a page."""

import itertools
import re
import unittest

from tabgrow.laying import laid, shown, stops
from tests.common import PLAIN_STYLES, GrowCase, made_pages, made_styles


def own_stretch(page, row, column):
    """The cells of the stretch of a closed cell, found from that cell up and down."""
    begin, end = row, row + 1
    while begin > 0 and len(page[begin - 1]) > column + 1:
        begin -= 1
    while end < len(page) and len(page[end]) > column + 1:
        end += 1
    return [each[column] for each in page[begin:end]]


def own_stops(page, style):
    """The left ends, each from its row alone."""
    told = []
    for number, row in enumerate(page):
        ends = [0]
        for column in range(len(row) - 1):
            most = max(len(cell) for cell in own_stretch(page, number, column))
            ends.append(ends[column] + max(most + style[0], style[1]))
        told.append(ends)
    return told


def own_laid(page, style):
    told = own_stops(page, style)
    for number, row in enumerate(page):
        for column in reversed(range(len(row) - 1)):
            cells = own_stretch(page, number, column)
            if any(cells) and all(re.fullmatch("(-?[0-9]+)?", cell) for cell in cells):
                told[number][column] = own_stops(page, style)[number][column + 1] - style[0] - len(row[column])
    return told


def own_shown(page, style):
    """The lines, sign by sign."""
    lines = []
    for row, begins in zip(page, own_laid(page, style)):
        signs = {}
        for cell, begin in zip(row, begins):
            for at, sign in enumerate(cell):
                signs[begin + at] = sign
        lines.append("".join(signs.get(at, " ") for at in range(max(signs, default=-1) + 1)))
    return lines


def least_ends(page, style, most):
    """The least left ends of all ways to give closed cells widths up to most, each end for itself."""
    closed = [(row, column) for row, cells in enumerate(page) for column in range(len(cells) - 1)]
    best = [[None] * len(row) for row in page]
    for widths in itertools.product(range(most + 1), repeat=len(closed)):
        way = dict(zip(closed, widths))
        fits = all(width >= max(len(page[row][column]) + style[0], style[1]) for (row, column), width in way.items())
        alike = all(way.get((row + 1, column), width) == width for (row, column), width in way.items())
        if fits and alike:
            for number, row in enumerate(page):
                for column in range(len(row)):
                    end = sum(way[number, ahead] for ahead in range(column))
                    if best[number][column] is None or end < best[number][column]:
                        best[number][column] = end
    return best


class LeftEnds(GrowCase):
    def test_one_row(self):
        self.tells([[0]], stops, [("word",)], (4, 12))
        self.tells([[0, 3, 6, 8]], stops, [("ab", "12", "", "word")], (1, 2))
        self.tells([[0, 2, 4, 4]], stops, [("ab", "12", "", "word")], (0, 0))

    def test_rows_share_widths(self):
        page = [("a", "bb", "c"), ("ddd", "e", "f"), ("g", "h")]
        self.tells([[0, 4, 7], [0, 4, 7], [0, 4]], stops, page, (1, 0))

    def test_a_row_that_is_not_closed_parts(self):
        page = [("a", "b"), ("long cell",), ("ccc", "d")]
        self.tells([[0, 2], [0], [0, 4]], stops, page, (1, 0))

    def test_a_column_ends_where_the_one_ahead_goes_on(self):
        page = [("a", "1", "x"), ("b", "12345"), ("c", "123", "y")]
        self.tells([[0, 3, 6], [0, 3], [0, 3, 8]], stops, page, (2, 0))

    def test_six_cells(self):
        page = [("a", "bb", "ccc", "dddd", "eeeee", "f"), ("",) * 6]
        self.tells([[0, 3, 7, 12, 18, 25]] * 2, stops, page, (2, 0))
        self.tells([[0, 5, 10, 15, 21, 28]] * 2, stops, page, (2, 5))
        self.tells([[0, 12, 24, 36, 48, 60]] * 2, stops, page, (2, 12))

    def test_thirty_rows(self):
        page = [("x" * (row % 11), "y") for row in range(30)]
        self.tells([[0, 14]] * 30, stops, page, (4, 0))
        self.tells([[0, 10]] * 30, stops, page, (0, 0))

    def test_empty_cells(self):
        page = [("", "", "a"), ("", "", "")]
        self.tells([[0, 0, 0]] * 2, stops, page, (0, 0))
        self.tells([[0, 4, 8]] * 2, stops, page, (4, 0))
        self.tells([[0, 12, 24]] * 2, stops, page, (0, 12))

    def test_standing_to_the_right_moves_no_left_end(self):
        self.tells([[0, 4], [0, 4]], stops, [("1", "a"), ("222", "b")], (1, 0))


class Begins(GrowCase):
    def test_words_begin_at_their_left_ends(self):
        self.tells([[0, 5], [0, 5]], laid, [("word", "1"), ("a", "22")], (1, 0))

    def test_figures_stand_to_the_right(self):
        self.tells([[2, 4], [0, 4], [1, 4]], laid, [("1", "a"), ("333", "b"), ("22", "c")], (1, 0))
        self.tells([[9, 12], [7, 12], [8, 12]], laid, [("1", "a"), ("333", "b"), ("22", "c")], (2, 12))
        self.tells([[11, 12], [9, 12], [10, 12]], laid, [("1", "a"), ("333", "b"), ("-2", "c")], (0, 12))

    def test_empty_cells_stand_to_the_right_too(self):
        self.tells([[3, 4], [0, 4], [1, 4]], laid, [("", "a"), ("333", "b"), ("-2", "c")], (1, 0))
        self.tells([[2, 6], [1, 6]], laid, [("", "a"), ("7", "b")], (4, 6))

    def test_cells_of_no_figures_at_all_do_not(self):
        self.tells([[0, 4], [0, 4]], laid, [("", "1"), ("", "22")], (4, 0))
        self.tells([[0, 3], [0, 3]], laid, [("-", "a"), ("22", "b")], (1, 0))
        self.tells([[0, 3], [0, 3]], laid, [(" 1", "a"), ("2", "b")], (1, 0))

    def test_a_last_cell_begins_at_its_left_end(self):
        self.tells([[0], [2, 4]], laid, [("1",), ("3", "22")], (1, 4))
        self.tells([[1, 3, 6], [0, 3]], laid, [("1", "22", "3"), ("22", "4")], (1, 0))

    def test_right_and_left_in_one_row(self):
        page = [("1", "ab", "7", "z"), ("22", "c", "-88", "")]
        self.tells([[1, 4, 10, 13], [0, 4, 8, 13]], laid, page, (2, 0))

    def test_one_to_the_right_directly_behind_another(self):
        self.tells([[1, 3, 6], [0, 4, 6]], laid, [("1", "22", "a"), ("33", "4", "b")], (1, 0))

    def test_each_stretch_for_itself(self):
        page = [("1", "a"), ("22", "b"), ("word",), ("3", "c"), ("x", "d")]
        self.tells([[1, 3], [0, 3], [0], [0, 2], [0, 2]], laid, page, (1, 0))


class Lines(GrowCase):
    def test_ordinary(self):
        page = [("tea", "12", "green"), ("coffee", "-7", ""), ("sum", "5")]
        self.tells(["tea     12  green", "coffee  -7", "sum     5"], shown, page, (2, 0))
        self.tells(["tea" + " " * 13 + "12  green", "coffee" + " " * 10 + "-7", "sum       5"], shown, page, (2, 10))

    def test_no_blanks_behind_the_last_cell_that_is_not_empty(self):
        page = [("a", "b", ""), ("a", "", ""), ("", "", ""), ("", "b", "")]
        self.tells(["a  b", "a", "", "   b"], shown, page, (2, 0))
        self.tells([""], shown, [("", "")], (4, 12))
        self.tells([""], shown, [("",)], (4, 12))

    def test_blanks_of_a_cell_are_its_signs(self):
        page = [("a", "b "), ("  ", ""), ("c", " d "), (" ", "")]
        self.tells(["a  b ", "  ", "c   d ", " "], shown, page, (1, 0))
        self.tells(["   ", "a"], shown, [("", "  "), ("a", "")], (0, 0))

    def test_an_empty_cell_to_the_right(self):
        self.tells(["    a", "333 b", "  1"], shown, [("", "a"), ("333", "b"), ("1", "")], (1, 0))

    def test_no_gap(self):
        self.tells(["abc1", "d  2"], shown, [("abc", "1"), ("d", "2")], (0, 0))
        self.tells(["  1a", "222b"], shown, [("1", "a"), ("222", "b")], (0, 0))

    def test_thirty_lines(self):
        page = [(str(row), "x") for row in range(30)]
        wanted = [" " * (row < 10) + str(row) + " x" for row in range(30)]
        self.tells(wanted, shown, page, (1, 0))

    def test_no_line_is_longer_than_its_last_cell_needs(self):
        self.tells(["0123456789    0123456789"], shown, [("0123456789", "0123456789")], (4, 12))


class AllTogether(GrowCase):
    def test_made_pages(self):
        for page, style in zip(made_pages(5, 200), made_styles(6, 200)):
            self.tells(own_stops(page, style), stops, page, style)
            self.tells(own_laid(page, style), laid, page, style)
            self.tells(own_shown(page, style), shown, page, style)

    def test_each_style(self):
        for page in made_pages(7, 12):
            for style in PLAIN_STYLES:
                self.tells(own_laid(page, style), laid, page, style)
                self.tells(own_shown(page, style), shown, page, style)

    def test_no_cell_reaches_beyond_the_next_left_end(self):
        for page, style in zip(made_pages(8, 150), made_styles(9, 150)):
            for row, ends, begins in zip(page, stops(page, style), laid(page, style)):
                for column, cell in enumerate(row):
                    self.assertLessEqual(ends[column], begins[column])
                    if column + 1 < len(row):
                        self.assertLessEqual(begins[column] + len(cell) + style[0], ends[column + 1])

    def test_no_left_end_is_less_in_any_way(self):
        pages = (
            [("a", "b"), ("cc", "d", "e"), ("f",)],
            [("1", "22", "a"), ("33", "4"), ("5", "", "b")],
            [("",), ("", ""), ("", "", "")],
            [("aa", "b"), ("c",), ("d", "e"), ("", "f")],
            [("", "", "", "", "", "")],
            [("a", "bb", "", "c")],
        )
        for page in pages:
            for style in ((0, 0), (1, 0), (2, 1), (0, 3), (1, 3), (1, 2)):
                self.tells(least_ends(page, style, 5), stops, page, style)

    def test_a_page_that_is_changed_later(self):
        page = [("a", "b")]
        first = (stops(page, (1, 0)), laid(page, (1, 0)), shown(page, (1, 0)))
        page[0] = ("12345", "c")
        self.same(first, ([[0, 2]], [[0, 2]], ["a b"]))
        self.tells(["12345 c"], shown, page, (1, 0))

    def test_what_one_tells_does_not_hang_on_another(self):
        page = [("1", "a"), ("22", "b")]
        ends = stops(page, (1, 0))
        begins = laid(page, (1, 0))
        ends[0][0] = 99
        begins[0][1] = 99
        self.same(shown(page, (1, 0)), [" 1 a", "22 b"])


if __name__ == "__main__":
    unittest.main()
