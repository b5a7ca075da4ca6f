"""[9]: what a sheet refuses, in the order told, and that nothing is changed by it."""

import unittest

from tabgrow.laying import laid
from tabgrow.sheets import Sheet
from tests.common import GrowCase

PAGE = [("ab", "c"), ("",), ("12", "", "x")]
STYLE = (1, 0)
# What is no number, wherever one is asked for.
NO_NUMBERS = (None, True, False, "", "0", "1", "a", (), (0,), [], [0], -1, -2, -30, -1000)
NO_ROWS = (None, True, False, 0, 1, "", "a", "ab", (), [], ["a"], ["a", "b"], [("a",)], ("a",) * 7, ("",) * 7,
           ("a" * 11,), (" " * 11, "a"), ("%",), ("a", "b%"), ("a\tb",), ("a\n",), ("\r",), ("\x7f",), ("\x1f",),
           ("\u00e9",), (None,), ("a", 1), ("a", True), (("a",),), (["a"],), ("a", "", None))
NO_SIGNS = ("", "ab", "a ", "  ", "%", "\n", "\r", "\x00", "\x1f", "\x7f", "\x80", "\u00e9", "\u00b2", "\u3000",
            "\t\t", "a\t", "\ta", "\ud800", "\U0001f600", None, True, False, 0, 1, 97, (), ("a",), [], ["a"], ["\t"])
FULL = [("ab", "c")] * 30


class Refused(GrowCase):
    def refused(self, name, page, deed, *handed):
        """A deed is refused; page, begins and what can be taken back are as they were."""
        start = page[:-1] + [("start",)]
        sheet = Sheet(start, STYLE)
        sheet.change(len(page) - 1, page[-1])
        self.refuses(name, None, getattr(sheet, deed), *handed)
        self.same(sheet.page(), page)
        self.same(sheet.begins(), laid(page, STYLE))
        self.assertIs(sheet.back(), True)
        self.same(sheet.page(), start)
        self.assertIs(sheet.back(), False)

    def no_number(self, page, last, deed, *handed):
        """Neither what is no number nor one beyond the last is taken, whatever is handed in behind."""
        for number in NO_NUMBERS + (last + 1, last + 2, last + 1000):
            self.refused("BadRow", page, deed, number, *handed)


class Numbers(Refused):
    def test_put(self):
        for page in (PAGE, PAGE[:1], FULL[:29]):
            self.no_number(page, len(page), "put", ("a",))
        self.no_number(PAGE, 3, "put", None)
        self.no_number(FULL, 30, "put", ("a",))

    def test_take(self):
        for page in (PAGE, PAGE[:1], FULL):
            self.no_number(page, len(page) - 1, "take")

    def test_change(self):
        for page in (PAGE, PAGE[:1], FULL):
            self.no_number(page, len(page) - 1, "change", ("a",))
        self.no_number(PAGE, 2, "change", None)

    def test_strike(self):
        for page in (PAGE, PAGE[:1], FULL):
            self.no_number(page, len(page) - 1, "strike", 0, 0, "a")
            self.no_number(page, len(page) - 1, "strike", 0, 0, "\t")
        for handed in ((9, 0, "a"), (None, 0, "a"), (0, 99, "a"), (0, [], "a"), (0, 0, "%"), (0, 0, None),
                       ([], [], [])):
            self.no_number(PAGE, 2, "strike", *handed)

    def test_erase(self):
        for page in (PAGE, PAGE[:1], FULL):
            self.no_number(page, len(page) - 1, "erase", 0, 0)
        for handed in ((9, 0), (None, 0), (0, 99), (0, "0"), ([], [])):
            self.no_number(PAGE, 2, "erase", *handed)

    def test_part(self):
        for page in (PAGE, PAGE[:1], FULL):
            self.no_number(page, len(page) - 1, "part", 0, 0)
        for handed in ((9, 0), (None, 0), (0, 99), (0, "0"), ([], [])):
            self.no_number(PAGE, 2, "part", *handed)
            self.no_number(FULL, 29, "part", *handed)

    def test_unite_at_the_last_row_too(self):
        for page in (PAGE, PAGE[:2], PAGE[:1], FULL, [("a",) * 6] * 3):
            self.no_number(page, len(page) - 2, "unite")


class Rows(Refused):
    def test_what_is_no_row(self):
        for row in NO_ROWS:
            for number in (0, 1, 3):
                self.refused("BadRow", PAGE, "put", number, row)
            for number in (0, 1, 2):
                self.refused("BadRow", PAGE, "change", number, row)
            self.refused("BadRow", FULL, "put", 0, row)
            self.refused("BadRow", FULL, "change", 29, row)

    def test_a_thirty_first_row(self):
        for number in (0, 1, 29, 30):
            self.refused("BadRow", FULL, "put", number, ("a",))
        for number, cell, place in ((0, 0, 0), (0, 0, 1), (29, 1, 1), (15, 1, 0)):
            self.refused("BadRow", FULL, "part", number, cell, place)

    def test_the_last_row_that_is_left(self):
        for page in ([("a", "b")], [("",)]):
            self.refused("BadRow", page, "take", 0)


class CellsAndPlaces(Refused):
    """Cells and places that there aren't, with worse things behind them."""

    def no_cell(self, page, number, cell, place):
        self.refused("BadCell", page, "erase", number, cell, place)
        self.refused("BadCell", page, "part", number, cell, place)
        for sign in ("a", "\t", "%", None):
            self.refused("BadCell", page, "strike", number, cell, place, sign)

    def test_cells(self):
        for number, row in enumerate(PAGE):
            for cell in NO_NUMBERS + (len(row), len(row) + 1, len(row) + 1000):
                for place in (0, 99, None):
                    self.no_cell(PAGE, number, cell, place)
        self.no_cell([("a",) * 6], 0, 6, 0)

    def test_places(self):
        for number, row in enumerate(PAGE):
            for cell, text in enumerate(row):
                for place in NO_NUMBERS + (len(text) + 1, len(text) + 2, len(text) + 1000):
                    self.no_cell(PAGE, number, cell, place)
        self.no_cell([("0123456789",)], 0, 0, 11)

    def test_a_cell_is_refused_ahead_of_a_thirty_first_row(self):
        for cell, place in ((2, 0), (-1, 0), (True, 0), (None, 0), (0, 3), (0, -1), (1, 2), (0, None), (0, True)):
            self.no_cell(FULL, 0, cell, place)
            self.no_cell(FULL, 29, cell, place)


class Signs(Refused):
    def test_signs_that_are_none(self):
        for sign in NO_SIGNS:
            for number, cell, place in ((0, 0, 0), (0, 0, 2), (1, 0, 0), (2, 2, 1)):
                self.refused("BadCell", PAGE, "strike", number, cell, place, sign)

    def test_all_signs_from_none_to_three_hundred(self):
        for number in list(range(32)) + [37] + list(range(127, 300)):
            if number != 9:
                self.refused("BadCell", PAGE, "strike", 0, 0, 1, chr(number))


class TooLong(Refused):
    def test_an_eleventh_sign_by_strike(self):
        page = [("a", "0123456789"), ("0123456789", "b")]
        for place in (0, 5, 10):
            for sign in ("x", " ", "1"):
                self.refused("BadCell", page, "strike", 0, 1, place, sign)
                self.refused("BadCell", page, "strike", 1, 0, place, sign)

    def test_an_eleventh_sign_by_erase_of_a_tab(self):
        self.refused("BadCell", [("012345", "56789"), ("a",)], "erase", 0, 0, 6)
        self.refused("BadCell", [("a",), ("x", "0123456789", "0123456789")], "erase", 1, 1, 10)
        self.refused("BadCell", [("0", "0123456789", "a")], "erase", 0, 0, 1)

    def test_an_eleventh_sign_by_unite(self):
        self.refused("BadCell", [("012345",), ("56789",)], "unite", 0)
        self.refused("BadCell", [("b",), ("a", "0123456789"), ("0", "c")], "unite", 1)

    def test_a_seventh_cell_by_a_tab(self):
        page = [("a", "b", "c", "d", "e", "fg"), ("x",)]
        for cell, place in ((0, 0), (0, 1), (3, 1), (5, 0), (5, 1), (5, 2)):
            self.refused("BadCell", page, "strike", 0, cell, place, "\t")

    def test_a_seventh_cell_by_unite(self):
        self.refused("BadCell", [("a",) * 6, ("a", "b")], "unite", 0)
        self.refused("BadCell", [("a",), ("a", "b"), ("a",) * 6], "unite", 1)
        self.refused("BadCell", [("a",) * 4, ("",) * 4], "unite", 0)
        self.refused("BadCell", [("a",) * 6] * 30, "unite", 28)

    def test_an_erase_behind_the_last_cells_last_sign(self):
        for page in (PAGE, FULL, [("a",) * 6], [("0123456789",)], [("",)]):
            for number in (0, len(page) - 1):
                row = page[number]
                self.refused("BadCell", page, "erase", number, len(row) - 1, len(row[-1]))


class Behind(Refused):
    def test_deeds_behind_a_refusal(self):
        sheet = Sheet(PAGE, STYLE)
        self.refuses("BadRow", None, sheet.take, 3)
        self.same(sheet.strike(0, 0, 2, "d"), [])
        self.refuses("BadCell", None, sheet.strike, 0, 0, 4, "d")
        self.same(sheet.take(1), [(1, 1, 3, 4), (1, 2, 4, 5)])
        self.assertIs(sheet.back(), True)
        self.same(sheet.page(), [("abd", "c")] + PAGE[1:])
        self.assertIs(sheet.back(), True)
        self.same(sheet.page(), PAGE)
        self.assertIs(sheet.back(), False)


if __name__ == "__main__":
    unittest.main()
