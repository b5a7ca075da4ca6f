"""[2]: what pages and styles can be, asked of each function that is handed one."""

import unittest

from tabgrow.cursors import Cursor
from tabgrow.hands import Table
from tabgrow.laying import judged, laid, shown, stops
from tabgrow.notes import written
from tabgrow.placing import gap_within, placed
from tabgrow.routes import route, stepped
from tabgrow.sheets import Sheet
from tabgrow.stretches import stretches
from tests.common import NO_LISTS, GrowCase


def judged_by_none(page, style):
    """judged, of lists that can't be: the page and the style are refused ahead of them."""
    return judged(page, style, None)


def stepped_by_none(page, style):
    """stepped, of steps that can't be: the page and the style are refused ahead of them."""
    return stepped(page, style, [None])


def placed_of_none(page, style):
    """placed, of a row that is none: the page and the style are refused ahead of it."""
    return placed(page, style, None)


def table_of_none(page, style):
    """A table of hands that can't be: the page and the style are refused ahead of them."""
    return Table(page, style, None)


def table(page, style):
    return Table(page, style, 1)


def gap_of_none(page, style):
    """gap_within, of a least and a number of signs that can't be: the page is refused ahead of them."""
    return gap_within(page, None, None)


def written_alone(page, style):
    return written(page)


def routed_from(page, style):
    """route to a page that can't be: the first one is refused ahead of it."""
    return route(page, None)


def routed_to(page, style):
    return route([GOOD], page)


def sheet_told(page, style):
    """What a sheet tells that has just been made."""
    sheet = Sheet(page, style)
    return sheet.page(), sheet.begins()


def cursor_told(page, style):
    """What a cursor tells that has just been made."""
    cursor = Cursor(page, style)
    return cursor.page(), cursor.at(), cursor.aside()


def table_told(page, style):
    """What a table tells that has just been made."""
    made = Table(page, style, 2)
    return made.page(), made.begins(), made.told(), made.at(0), made.at(1)


def placed_told(page, style):
    return placed(page, style, page[0])


# Those that are handed a page and a style, and those that are handed a page alone.
ASKED = (stretches, stops, laid, shown, judged_by_none, Sheet, Cursor, stepped_by_none, placed_of_none, table,
         table_of_none)
ASKED_OF_PAGES = (gap_of_none, written_alone, routed_from, routed_to)
TELLING = (stretches, stops, laid, shown, sheet_told, cursor_told, table_told, placed_told, written_alone)
GOOD = ("a", "b")


class BadPages(GrowCase):
    def bad(self, row, page):
        for call in ASKED + ASKED_OF_PAGES:
            self.refuses("BadPage", row, call, page, (1, 0))
            # What is handed in first is refused first.
            self.refuses("BadPage", row, call, page, None)

    def test_what_is_no_list_of_rows(self):
        for page in NO_LISTS:
            self.bad(0, page)

    def test_a_page_of_no_row(self):
        self.bad(0, [])

    def test_a_page_that_is_a_tuple_of_rows(self):
        self.bad(0, (GOOD, GOOD))
        self.bad(0, (GOOD, GOOD, None))

    def test_what_is_no_row(self):
        for row in (None, True, False, 0, 3, "", "a", "ab", (), [], ["a"], ["a", "b"], [("a",)]):
            self.bad(0, [row])
            self.bad(1, [GOOD, row])
            self.bad(2, [GOOD, GOOD, row, GOOD])

    def test_a_row_of_seven_cells(self):
        self.bad(1, [("a",) * 6, ("a",) * 7])
        self.bad(0, [("",) * 7])
        self.bad(0, [("",) * 8])

    def test_what_is_no_cell(self):
        for cell in (None, True, False, 0, 5, (), ("a",), [], ["a"], "a" * 11, " " * 11, "a" * 200):
            self.bad(0, [(cell,)])
            self.bad(0, [(cell, "a")])
            self.bad(2, [GOOD, GOOD, ("a", "", cell)])
            self.bad(1, [GOOD, ("a", cell, "b"), GOOD])

    def test_signs_that_are_none(self):
        for number in list(range(32)) + [37] + list(range(127, 300)) + [0x3000, 0x1F600, 0x0663, 0xD800]:
            self.bad(1, [GOOD, ("a" + chr(number) + "b",)])
        for sign in ("\t", "\n", "\r", "%", "\x7f", "\u00e9", "\u00b2", "\u0663"):
            self.bad(0, [(sign,)])
            self.bad(0, [(sign, "a")])
            self.bad(3, [GOOD, GOOD, GOOD, ("a", "12345678" + sign)])

    def test_the_first_row_that_cannot_be_is_told(self):
        self.bad(1, [GOOD, None, (), ("%",)])
        self.bad(2, [GOOD, GOOD, ("a", "\t"), 7])
        self.bad(0, [(), GOOD, ()])

    def test_the_thirty_first_row(self):
        self.bad(30, [GOOD] * 31)
        self.bad(30, [GOOD] * 40)
        self.bad(30, [("",)] * 31)
        self.bad(30, [GOOD] * 30 + [None])
        self.bad(30, [GOOD] * 32 + [("%",)])

    def test_a_row_ahead_of_the_thirty_first(self):
        self.bad(29, [GOOD] * 29 + [None, GOOD])
        self.bad(29, [GOOD] * 29 + [["a"]])
        self.bad(3, [GOOD] * 3 + [("%",)] + [GOOD] * 40)
        self.bad(0, [()] + [GOOD] * 30)


class BadStyles(GrowCase):
    def bad(self, style):
        for call in ASKED:
            self.refuses("BadStyle", None, call, [GOOD, ("a", "b", "c")], style)
            self.refuses("BadPage", 1, call, [GOOD, ("a", "%", "c")], style)

    def test_what_is_no_tuple_of_two(self):
        for style in NO_LISTS:
            self.bad(style)
        for style in ([1, 0], [], [(1, 0)], (1,), (0,), (1, 0, 0), (1, 0, 5), ((1, 0),), ((1, 0), 0), "10", "1,0"):
            self.bad(style)

    def test_a_gap_that_cannot_be(self):
        for gap in (-1, -4, 5, 12, 13, 100, None, True, False, "1", "", (), (1,), [], [1]):
            self.bad((gap, 0))
            self.bad((gap, 12))

    def test_a_least_that_cannot_be(self):
        for least in (-1, -12, 13, 100, None, True, False, "1", "", (), (1,), [], [1]):
            self.bad((0, least))
            self.bad((4, least))

    def test_gap_and_least_do_not_change_places(self):
        self.bad((12, 4))
        self.bad((5, 0))
        self.bad((13, 13))


class GoodOnes(GrowCase):
    def test_all_styles(self):
        for gap in range(5):
            for least in range(13):
                width = max(gap + 2, least)
                self.tells([[0, width]], stops, [("ab", "c")], (gap, least))

    def test_all_signs(self):
        for number in range(32, 127):
            if number != 37:
                sign = chr(number)
                for call in TELLING:
                    self.told(call, [(sign,)], (1, 0))
                self.tells([sign * 10 + " " + sign], shown, [(sign * 10, sign)], (1, 0))

    def test_the_greatest_page(self):
        page = [("0123456789",) * 6 for _ in range(30)]
        self.tells([[0, 14, 28, 42, 56, 70]] * 30, stops, page, (4, 12))
        self.tells([("    ".join(["0123456789"] * 6))] * 30, shown, page, (4, 12))
        self.assertEqual(len(self.told(stretches, page, (4, 12))), 5)

    def test_the_least_page(self):
        for call, wanted in ((stretches, []), (stops, [[0]]), (laid, [[0]]), (shown, [""])):
            self.tells(wanted, call, [("",)], (0, 0))
        self.tells(None, judged, [("",)], (0, 0), [[0]])

    def test_one_row_object_many_times(self):
        row = ("a", "bb")
        self.tells([[0, 2]] * 3, laid, [row, row, row], (1, 0))


if __name__ == "__main__":
    unittest.main()
