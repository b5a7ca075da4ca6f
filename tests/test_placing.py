"""[15]: the best place for a row, and the greatest gap for a width."""

import random
import unittest

from tabgrow.laying import shown
from tabgrow.placing import gap_within, placed
from tabgrow.sheets import Sheet
from tests.common import CELLS, NO_LISTS, GrowCase, made_pages, made_styles

NO_ROWS = (None, True, False, 0, 1, "", "a", "ab", (), [], ["a"], ["a", "b"], [("a",)], ("a",) * 7, ("",) * 7,
           ("a" * 11,), (" " * 11, "a"), ("%",), ("a", "b%"), ("a\tb",), ("a\n",), ("\r",), ("\x7f",), ("\u00e9",),
           (None,), ("a", 1), ("a", True), (("a",),), (["a"],))


def puts(page, style, row):
    """How many cells a put of a new sheet moves, at each number."""
    return [len(Sheet(page, style).put(number, row)) for number in range(len(page) + 1)]


class Placed(GrowCase):
    def places(self, wanted, page, style, row):
        self.tells(wanted, placed, page, style, row)
        moves = puts(page, style, row)
        number, many = wanted
        self.same(moves[number], many)
        self.assertTrue(all(more > many for more in moves[:number]))
        self.assertTrue(all(more >= many for more in moves[number:]))

    def test_nothing_moves_anywhere(self):
        self.places((0, 0), [("a", "b"), ("c", "d")], (1, 0), ("e", "f"))
        self.places((0, 0), [("",)], (1, 0), ("",))
        self.places((0, 0), [("a",), ("b",)], (1, 0), ("longest", "x"))

    def test_a_page_of_one_row(self):
        self.places((0, 1), [("a", "b")], (1, 0), ("longer", "c"))
        self.places((0, 0), [("longer", "b")], (1, 0), ("a", "c"))
        self.places((0, 0), [("a",)], (1, 0), ("longer", "c"))

    def test_ahead_of_the_first_row(self):
        page = [("longer", "a"), ("x",), ("b", "c")]
        self.places((0, 0), page, (1, 0), ("long", "d"))

    def test_between_rows(self):
        page = [("a", "b"), ("c", "d"), ("e",), ("long", "f"), ("g",)]
        self.same(puts(page, (1, 0), ("long", "h")), [2, 2, 2, 0, 0, 0])
        self.places((3, 0), page, (1, 0), ("long", "h"))
        page = [("a", "b"), ("c",), ("d",), ("e", "f")]
        self.same(puts(page, (1, 0), ("long", "h")), [1, 1, 0, 1, 1])
        self.places((2, 0), page, (1, 0), ("long", "h"))

    def test_behind_the_last_row(self):
        page = [("a", "b"), ("c", "d"), ("e",)]
        self.same(puts(page, (1, 0), ("long", "h")), [2, 2, 2, 0])
        self.places((3, 0), page, (1, 0), ("long", "h"))

    def test_a_row_that_parts_a_stretch(self):
        page = [("longer", "a"), ("b", "c"), ("d", "e")]
        self.same(puts(page, (1, 0), ("x",)), [0, 2, 1, 0])
        self.places((0, 0), page, (1, 0), ("x",))
        page = [("b", "c"), ("longer", "a")]
        self.same(puts(page, (1, 0), ("longest", "x")), [2, 2, 2])
        self.places((0, 2), page, (1, 0), ("longest", "x"))

    def test_no_place_at_which_nothing_moves(self):
        page = [("a", "b", "c"), ("d", "e")]
        self.same(puts(page, (1, 0), ("long", "f")), [3, 3, 3])
        self.places((0, 3), page, (1, 0), ("long", "f"))
        page = [("a", "b", "c"), ("d", "e"), ("f", "g")]
        self.same(puts(page, (1, 0), ("lo", "longer", "")), [4, 4, 4, 4])
        page = [("1", "b", "c"), ("22", "e"), ("3", "g")]
        self.same(puts(page, (1, 0), ("",)), [0, 3, 2, 0])
        self.same(puts(page, (1, 0), ("x", "y")), [2, 2, 2, 2])
        self.places((0, 2), page, (1, 0), ("x", "y"))

    def test_cells_are_counted_not_rows(self):
        page = [("a", "b", "c", "d"), ("x",), ("e", "f"), ("g", "h")]
        self.same(puts(page, (1, 0), ("long", "i")), [3, 3, 2, 2, 2])
        self.places((2, 2), page, (1, 0), ("long", "i"))

    def test_the_style_counts(self):
        page = [("a", "b"), ("c", "d"), ("e",)]
        self.places((3, 0), page, (1, 0), ("long", "h"))
        self.places((0, 0), page, (1, 5), ("long", "h"))
        self.places((3, 0), page, (2, 5), ("long", "h"))

    def test_twenty_nine_rows(self):
        page = [("a", "b")] * 29
        self.places((0, 29), page, (1, 0), ("long", "c"))
        self.places((29, 0), [("a", "b")] * 28 + [("x",)], (1, 0), ("long", "c"))
        self.places((0, 0), page, (4, 12), ("long", "c"))

    def test_thirty_rows(self):
        for page in ([("a", "b")] * 30, [("",)] * 30):
            for row in (("a", "b"), ("",)) + NO_ROWS:
                self.refuses("BadRow", None, placed, page, (1, 0), row)
                self.refuses("BadStyle", None, placed, page, (5, 0), row)

    def test_what_is_no_row(self):
        for row in NO_ROWS:
            self.refuses("BadRow", None, placed, [("a", "b")], (1, 0), row)
            self.refuses("BadRow", None, placed, [("a", "b")] * 29, (1, 0), row)

    def test_page_then_style_then_row(self):
        for page in NO_LISTS + ([],):
            self.refuses("BadPage", 0, placed, page, (1, 0), ("a",))
            self.refuses("BadPage", 0, placed, page, None, None)
        for style in NO_LISTS + ((5, 0), (0, 13), (-1, 0), (True, 0), (0, False), (1, 0, 0), [1, 0]):
            self.refuses("BadStyle", None, placed, [("a",)], style, ("a",))
            self.refuses("BadStyle", None, placed, [("a",)], style, None)
            self.refuses("BadPage", 1, placed, [("a",), ()], style, None)
        self.refuses("BadPage", 30, placed, [("a",)] * 31, (1, 0), ("a",))
        self.refuses("BadPage", 30, placed, [("a",)] * 31, None, None)

    def test_made_pages(self):
        chance = random.Random(81)
        for page, style in zip(made_pages(82, 150), made_styles(83, 150)):
            row = tuple(chance.choice(CELLS) for _ in range(chance.randint(1, 6)))
            moves = puts(page, style, row)
            self.places((moves.index(min(moves)), min(moves)), page, style, row)


class GapWithin(GrowCase):
    def gaps(self, wanted, page, least, most):
        self.tells(wanted, gap_within, page, least, most)
        fitting = [gap for gap in range(5) if all(len(line) <= most for line in shown(page, (gap, least)))]
        self.same(max(fitting, default=None), wanted)

    def test_each_gap(self):
        page = [("ab", "cd"), ("e", "f")]
        for gap in range(4):
            self.gaps(gap, page, 0, 4 + gap)
        self.gaps(4, page, 0, 8)
        self.gaps(4, page, 0, 9)
        self.gaps(4, page, 0, 200)
        self.gaps(None, page, 0, 3)
        self.gaps(None, page, 0, 0)

    def test_several_columns(self):
        page = [("a", "b", "c"), ("d", "e", "f")]
        for most, gap in enumerate((None, None, None, 0, 0, 1, 1, 2, 2, 3, 3, 4, 4, 4)):
            self.gaps(gap, page, 0, most)

    def test_the_longest_line_counts(self):
        self.gaps(None, [("a", "b"), ("0123456789",)], 0, 9)
        self.gaps(4, [("a", "b"), ("0123456789",)], 0, 10)
        self.gaps(4, [("0123456789",), ("a", "b")], 0, 10)
        self.gaps(2, [("a", "b"), ("0123",), ("a", "b")], 0, 4)

    def test_a_row_of_one_cell(self):
        self.gaps(4, [("abc",)], 0, 3)
        self.gaps(None, [("abc",)], 0, 2)
        self.gaps(4, [("",)], 0, 0)
        self.gaps(4, [("",)], 12, 0)

    def test_empty_cells_behind_are_no_part_of_a_line(self):
        self.gaps(4, [("ab", "", "")], 0, 2)
        self.gaps(4, [("", "", "")], 12, 0)
        self.gaps(0, [("", " ")], 0, 1)

    def test_the_least_counts(self):
        page = [("ab", "cd")]
        self.gaps(4, page, 6, 8)
        self.gaps(None, page, 6, 7)
        self.gaps(4, page, 5, 8)
        self.gaps(3, page, 5, 7)
        self.gaps(None, page, 5, 6)
        self.gaps(None, page, 12, 13)
        self.gaps(4, page, 12, 14)

    def test_a_greater_gap_with_shorter_lines(self):
        # The least holds the width, and numbers stand farther to the left as the gap grows.
        page = [("1", "")]
        self.same([len(shown(page, (gap, 12))[0]) for gap in range(5)], [12, 11, 10, 9, 8])
        self.gaps(4, page, 12, 12)
        self.gaps(4, page, 12, 8)
        self.gaps(None, page, 12, 7)

    def test_a_gap_that_fits_between_two_that_do_not(self):
        page = [("", "1", ""), ("",), ("0123456789", "abcdefgh")]
        self.same([max(len(line) for line in shown(page, (gap, 12))) for gap in range(5)], [24, 23, 22, 21, 22])
        self.gaps(4, page, 12, 22)
        self.gaps(3, page, 12, 21)
        self.gaps(None, page, 12, 20)

    def test_two_hundred_signs(self):
        self.gaps(4, [("0123456789",) * 6] * 30, 12, 200)
        self.gaps(4, [("0123456789",) * 6] * 30, 12, 80)
        self.gaps(3, [("0123456789",) * 6] * 30, 12, 79)
        self.gaps(None, [("0123456789",) * 6] * 30, 12, 69)

    def test_made_pages(self):
        for number, (page, (_, least)) in enumerate(zip(made_pages(84, 120), made_styles(85, 120))):
            longest = [max(len(line) for line in shown(page, (gap, least))) for gap in range(5)]
            for most in sorted(set(longest) | {each - 1 for each in longest if each > 0} | {number, 0, 200}):
                fitting = [gap for gap in range(5) if longest[gap] <= most]
                self.gaps(max(fitting, default=None), page, least, most)

    def test_a_number_of_signs_that_cannot_be(self):
        for most in (-1, -200, 201, 1000, True, False, None, "", "1", (), (1,), [], [1]):
            self.refuses("BadCount", None, gap_within, [("a", "b")], 0, most)
            self.refuses("BadCount", None, gap_within, [("",)], 12, most)

    def test_a_least_that_cannot_be(self):
        for least in (-1, -12, 13, 100, True, False, None, "", "1", (), (1,), (0, 0), [], [1]):
            for most in (0, 200, -1, 201, None):
                self.refuses("BadStyle", None, gap_within, [("a", "b")], least, most)
                self.refuses("BadPage", 1, gap_within, [("a", "b"), ()], least, most)

    def test_page_then_least_then_signs(self):
        for page in NO_LISTS + ([],):
            self.refuses("BadPage", 0, gap_within, page, 0, 10)
            self.refuses("BadPage", 0, gap_within, page, None, None)
        self.refuses("BadPage", 30, gap_within, [("a",)] * 31, 0, 10)
        self.refuses("BadPage", 1, gap_within, [("a",), ("%",)], 0, -1)

    def test_all_leasts(self):
        for least in range(13):
            self.gaps(4, [("a", "b")], least, max(5, least) + 1)


if __name__ == "__main__":
    unittest.main()
