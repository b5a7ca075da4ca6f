"""[3] and [4]: stretches."""

import itertools
import re
import unittest

from tabgrow.stretches import stretches
from tests.common import PLAIN_STYLES, GrowCase, made_pages, made_styles


def brute_stretches(page, style):
    """The stretches, by trying each column with each row of neighbouring rows."""
    gap, least = style
    found = []
    for column in range(6):
        closed = [len(row) > column + 1 for row in page]
        for begin, end in itertools.combinations(range(len(page) + 1), 2):
            ahead = begin > 0 and closed[begin - 1]
            behind = end < len(page) and closed[end]
            if all(closed[begin:end]) and not ahead and not behind:
                cells = {row: page[row][column] for row in range(begin, end)}
                most = max(map(len, cells.values()))
                figures = [bool(re.fullmatch("(-?[0-9]+)?", cell)) for cell in cells.values()]
                right = all(figures) and set(cells.values()) != {""}
                holders = [row for row in cells if len(cells[row]) == most and most + gap > least]
                found.append((column, begin, end, max(most + gap, least), right, holders))
    return found


def sides(cells, style=(1, 0)):
    """Whether the stretch of such cells, the only one, stands to the right."""
    told = stretches([(cell, "behind") for cell in cells], style)
    assert len(told) == 1, told
    return told[0][4]


class Where(GrowCase):
    def test_one_row(self):
        self.tells([], stretches, [("word",)], (1, 0))
        self.tells([(0, 0, 1, 5, False, [0])], stretches, [("word", "x")], (1, 0))
        self.tells(
            [(0, 0, 1, 2, False, [0]), (1, 0, 1, 3, False, [0]), (2, 0, 1, 4, True, [0])],
            stretches, [("a", "bb", "333", "4444")], (1, 0))

    def test_a_row_of_six_cells(self):
        self.tells(
            [(0, 0, 1, 1, True, [0]), (1, 0, 1, 2, True, [0]), (2, 0, 1, 3, True, [0]),
             (3, 0, 1, 4, True, [0]), (4, 0, 1, 5, True, [0])],
            stretches, [("1", "22", "333", "4444", "55555", "666666")], (0, 0))

    def test_a_cell_that_is_not_closed_is_in_none(self):
        self.tells([(0, 0, 1, 2, False, [0])], stretches, [("a", "longer"), ("longest",)], (1, 0))
        self.tells([(0, 1, 2, 2, False, [1])], stretches, [("longest",), ("a", "longer")], (1, 0))

    def test_ordinary_rows(self):
        page = [("ab", "c"), ("abcd", "e", "f"), ("x",), ("", "12", "y"), ("zz", "3", "")]
        self.tells(
            [(0, 0, 2, 6, False, [1]), (0, 3, 5, 4, False, [4]), (1, 1, 2, 3, False, [1]), (1, 3, 5, 4, True, [3])],
            stretches, page, (2, 0))

    def test_by_columns_then_rows(self):
        page = [("a", "b", "c"), ("a", "b"), ("a", "b", "c"), ("a",), ("a", "b", "c")]
        self.tells(
            [(0, 0, 3, 2, False, [0, 1, 2]), (0, 4, 5, 2, False, [4]),
             (1, 0, 1, 2, False, [0]), (1, 2, 3, 2, False, [2]), (1, 4, 5, 2, False, [4])],
            stretches, page, (1, 0))

    def test_one_directly_behind_the_other_in_different_columns(self):
        page = [("a", "b"), ("a", "b", "c"), ("a", "b", "c", "d"), ("a", "b"), ("x",), ("a", "b", "c")]
        self.tells(
            [(0, 0, 4, 1, False, [0, 1, 2, 3]), (0, 5, 6, 1, False, [5]), (1, 1, 3, 1, False, [1, 2]),
             (1, 5, 6, 1, False, [5]), (2, 2, 3, 1, False, [2])],
            stretches, page, (0, 0))

    def test_first_and_last_rows(self):
        self.tells([(0, 0, 1, 2, False, [0]), (0, 2, 3, 2, False, [2])],
                   stretches, [("a", "b"), ("c",), ("d", "e")], (1, 0))
        self.tells([(0, 1, 2, 2, False, [1])], stretches, [("a",), ("b", "c"), ("d",)], (1, 0))
        self.tells([(0, 0, 3, 2, False, [0, 1, 2])], stretches, [("a", ""), ("b", ""), ("c", "")], (1, 0))

    def test_thirty_rows(self):
        page = [("a", "b")] * 30
        self.tells([(0, 0, 30, 2, False, list(range(30)))], stretches, page, (1, 0))
        page = [("a", "b") if row % 2 == 0 else ("c",) for row in range(30)]
        self.tells([(0, row, row + 1, 3, False, [row]) for row in range(0, 30, 2)], stretches, page, (2, 0))
        page = [("c",)] * 29 + [("a", "b")]
        self.tells([(0, 29, 30, 2, False, [29])], stretches, page, (1, 0))

    def test_no_row_closed(self):
        self.tells([], stretches, [("a",), ("",), ("12",)], (4, 12))
        self.tells([], stretches, [("a",)] * 30, (4, 12))


class Widths(GrowCase):
    def test_least_greater_than_longest_and_gap(self):
        self.tells([(0, 0, 2, 12, False, [])], stretches, [("abc", "x"), ("d", "x")], (2, 12))
        self.tells([(0, 0, 2, 6, False, [])], stretches, [("abc", "x"), ("d", "x")], (2, 6))

    def test_least_equal_to_longest_and_gap(self):
        self.tells([(0, 0, 2, 5, False, [])], stretches, [("abc", "x"), ("d", "x")], (2, 5))
        self.tells([(0, 0, 1, 12, True, [])], stretches, [("0123456789", "x")], (2, 12))

    def test_least_less_than_longest_and_gap(self):
        self.tells([(0, 0, 2, 5, False, [0])], stretches, [("abc", "x"), ("d", "x")], (2, 4))
        self.tells([(0, 0, 1, 13, True, [0])], stretches, [("0123456789", "x")], (3, 12))
        self.tells([(0, 0, 1, 14, True, [0])], stretches, [("0123456789", "x")], (4, 12))

    def test_holders_of_the_same_length(self):
        page = [("ab", "x"), ("c", "x"), ("de", "x"), ("", "x"), ("  ", "x")]
        self.tells([(0, 0, 5, 3, False, [0, 2, 4])], stretches, page, (1, 0))

    def test_holders_are_rows_of_the_page(self):
        page = [("long",), ("a", "x"), ("bb", "x"), ("longer",), ("ccc", "x")]
        self.tells([(0, 1, 3, 3, False, [2]), (0, 4, 5, 4, False, [4])], stretches, page, (1, 0))

    def test_empty_cells(self):
        page = [("", "x"), ("", "x")]
        self.tells([(0, 0, 2, 0, False, [])], stretches, page, (0, 0))
        self.tells([(0, 0, 2, 1, False, [0, 1])], stretches, page, (1, 0))
        self.tells([(0, 0, 2, 4, False, [0, 1])], stretches, page, (4, 3))
        self.tells([(0, 0, 2, 4, False, [])], stretches, page, (4, 4))
        self.tells([(0, 0, 2, 12, False, [])], stretches, page, (4, 12))

    def test_blanks_count_for_the_length(self):
        self.tells([(0, 0, 2, 4, False, [0])], stretches, [("a  ", "x"), ("bb", "x")], (1, 0))
        self.tells([(0, 0, 2, 5, False, [1])], stretches, [("a", "x"), ("   ", "x")], (2, 0))


class ToTheRight(GrowCase):
    def test_figures(self):
        for cells in (["1"], ["0123456789"], ["00"], ["1", "22", "333"], ["0"]):
            self.assertIs(sides(cells), True, cells)

    def test_figures_behind_a_single_minus(self):
        for cells in (["-1"], ["-0"], ["-123456789"], ["1", "-2"], ["-1", "-22", "3"]):
            self.assertIs(sides(cells), True, cells)

    def test_figures_and_empty_cells(self):
        for cells in (["", "1"], ["1", ""], ["", "-3", "", ""]):
            self.assertIs(sides(cells), True, cells)

    def test_all_empty(self):
        for cells in ([""], ["", ""], [""] * 30):
            self.assertIs(sides(cells), False, cells)

    def test_a_minus_alone(self):
        for cells in (["-"], ["1", "-"], ["-", "2"], ["", "-"], ["--"]):
            self.assertIs(sides(cells), False, cells)

    def test_a_word_among_figures(self):
        for cells in (["1", "a", "2"], ["a", "1"], ["1", "a"], ["word"], ["1", "", "a"]):
            self.assertIs(sides(cells), False, cells)

    def test_no_figures_alone(self):
        for cell in ("--1", "1-", "1-2", "-1-", "- 1", " 1", "1 ", "1 2", "+1", "1.5", "1,5", "1e3", "0x1", " ", "-a",
                     "a1", "1a", "-1a", "- ", "1_0", "$1", "(1)", "/", ":"):
            self.assertIs(sides([cell]), False, cell)
            self.assertIs(sides(["1", cell]), False, cell)
            self.assertIs(sides([cell, "1"]), False, cell)

    def test_only_the_cells_of_the_stretch_count(self):
        page = [("word",), ("1", "a"), ("22", "b"), ("word",), ("word", "1"), ("3", "c")]
        self.tells([(0, 1, 3, 3, True, [2]), (0, 4, 6, 5, False, [4])], stretches, page, (1, 0))
        self.tells([(0, 0, 2, 2, False, [0, 1]), (1, 0, 1, 2, True, [0])],
                   stretches, [("a", "1", "x"), ("b", "word")], (1, 0))

    def test_whatever_the_style(self):
        for style in PLAIN_STYLES:
            self.assertIs(sides(["1", ""], style), True)
            self.assertIs(sides(["", ""], style), False)
            self.assertIs(sides(["-", "1"], style), False)


class AllTogether(GrowCase):
    def test_all_ways_of_lengths(self):
        for lengths in itertools.product((1, 2, 3), repeat=4):
            page = [("7" * (row % 3 + 1),) * length for row, length in enumerate(lengths)]
            self.tells(brute_stretches(page, (1, 3)), stretches, page, (1, 3))

    def test_made_pages(self):
        for page, style in zip(made_pages(1, 250), made_styles(2, 250)):
            self.tells(brute_stretches(page, style), stretches, page, style)

    def test_made_pages_of_many_rows(self):
        for page, style in zip(made_pages(3, 20, 30), made_styles(4, 20)):
            self.tells(brute_stretches(page, style), stretches, page, style)

    def test_a_page_that_is_changed_later(self):
        page = [("a", "b"), ("c",)]
        first = stretches(page, (1, 0))
        page[1] = ("word", "d")
        page.append(("", ""))
        self.same(first, [(0, 0, 1, 2, False, [0])])
        self.tells([(0, 0, 3, 5, False, [1])], stretches, page, (1, 0))


if __name__ == "__main__":
    unittest.main()
