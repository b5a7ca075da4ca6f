"""[8] to [10]: what the deeds of a sheet do and tell, and how they are taken back."""

import copy
import random
import unittest

from tabgrow.laying import laid
from tabgrow.sheets import Sheet
from tests import model
from tests.common import PLAIN_STYLES, GrowCase, lists_in, made_pages, made_styles, spoil

THREE = [("a", "b"), ("c",), ("longer", "d")]


class SheetCase(GrowCase):
    """A case that looks at all of a sheet behind each deed."""

    def stands(self, sheet, page, style):
        """The sheet has that page, as it lies by itself; what it tells is the asker's own."""
        for _ in range(2):
            told = sheet.page()
            self.same(told, page)
            spoil(told)
            begins = sheet.begins()
            self.same(begins, laid(page, style))
            self.assertEqual(len({id(part) for part in lists_in(begins)}), len(page) + 1)
            spoil(begins)

    def does(self, sheet, style, name, *handed):
        """A deed that isn't refused tells and does what the model says; tell both."""
        before = copy.deepcopy(handed)
        page, wanted = model.done(sheet.page(), style, name, *handed)
        self.assertIsNone(model.misfit(page))
        told = getattr(sheet, name)(*handed)
        self.same(told, wanted, (page, name, handed))
        self.same(handed, before)
        spoil(told)
        self.stands(sheet, page, style)
        return page, wanted

    def deed(self, page, style, name, handed, later, told):
        """A deed leads from a page to a later one and tells that; it is taken back once."""
        sheet = Sheet(page, style)
        self.same(self.does(sheet, style, name, *handed), (later, told), (page, name, handed))
        self.assertIs(sheet.back(), True)
        self.stands(sheet, page, style)
        self.assertIs(sheet.back(), False)
        self.stands(sheet, page, style)

    def all_back(self, sheet, style, pages):
        """The sheet goes back to these pages, the first of them last."""
        for page in reversed(pages):
            self.assertIs(sheet.back(), True)
            self.stands(sheet, page, style)
        self.assertIs(sheet.back(), False)
        self.assertIs(sheet.back(), False)


class Made(SheetCase):
    def test_page_and_begins(self):
        sheet = Sheet(THREE, (1, 0))
        self.same(sheet.page(), [("a", "b"), ("c",), ("longer", "d")])
        self.same(sheet.begins(), [[0, 2], [0], [0, 7]])

    def test_all_sorts_of_pages(self):
        for page, style in zip(made_pages(21, 60), made_styles(22, 60)):
            self.stands(Sheet(page, style), page, style)
        for page in ([("",)], [("a",)] * 30, [("0123456789",) * 6] * 30):
            for style in PLAIN_STYLES:
                self.stands(Sheet(page, style), page, style)

    def test_a_page_handed_in_is_not_kept(self):
        page = [("a", "b"), ("c", "d")]
        sheet = Sheet(page, (1, 0))
        page[0] = ("longest", "b")
        page.append(("e",))
        self.stands(sheet, [("a", "b"), ("c", "d")], (1, 0))
        sheet.change(0, ("x", "y"))
        page.clear()
        self.assertIs(sheet.back(), True)
        self.stands(sheet, [("a", "b"), ("c", "d")], (1, 0))

    def test_a_page_handed_in_stays(self):
        page = [("a", "b"), ("c", "d")]
        sheet = Sheet(page, (1, 0))
        sheet.take(0)
        sheet.put(1, ("e",))
        sheet.strike(0, 0, 0, "x")
        sheet.back()
        self.same(page, [("a", "b"), ("c", "d")])

    def test_two_sheets_of_one_page(self):
        page = [("a", "b"), ("c", "d")]
        one, other = Sheet(page, (1, 0)), Sheet(page, (2, 0))
        one.take(0)
        self.stands(one, [("c", "d")], (1, 0))
        self.stands(other, page, (2, 0))
        self.assertIs(other.back(), False)
        other.strike(1, 1, 1, "e")
        self.stands(one, [("c", "d")], (1, 0))
        self.assertIs(one.back(), True)
        self.stands(one, page, (1, 0))
        self.stands(other, [("a", "b"), ("c", "de")], (2, 0))


class Rows(SheetCase):
    def test_put_at_the_first_between_and_behind_the_last(self):
        row = ("muchlonger", "x")
        self.deed(THREE, (1, 0), "put", (0, row), [row] + THREE, [(1, 1, 2, 11)])
        self.deed(THREE, (1, 0), "put", (1, row), THREE[:1] + [row] + THREE[1:], [(0, 1, 2, 11)])
        self.deed(THREE, (1, 0), "put", (2, row), THREE[:2] + [row] + THREE[2:], [(3, 1, 7, 11)])
        self.deed(THREE, (1, 0), "put", (3, row), THREE + [row], [(2, 1, 7, 11)])

    def test_put_parts_a_stretch(self):
        page = [("a", "b", "c"), ("longer", "d", "e"), ("f", "g", "h")]
        self.deed(page, (1, 0), "put", (1, ("x",)), page[:1] + [("x",)] + page[1:], [(0, 1, 7, 2), (0, 2, 9, 4)])
        self.deed(page, (1, 0), "put", (2, ("",)), page[:2] + [("",)] + page[2:], [(3, 1, 7, 2), (3, 2, 9, 4)])
        self.deed(page, (1, 0), "put", (1, ("x", "y")), page[:1] + [("x", "y")] + page[1:], [])

    def test_take(self):
        self.deed(THREE, (1, 0), "take", (0,), THREE[1:], [])
        self.deed(THREE, (1, 0), "take", (1,), [THREE[0], THREE[2]], [(0, 1, 2, 7)])
        self.deed(THREE, (1, 0), "take", (2,), THREE[:2], [])
        page = [("a", "b"), ("longer", "c"), ("d", "e")]
        self.deed(page, (1, 0), "take", (1,), [("a", "b"), ("d", "e")], [(0, 1, 7, 2), (1, 1, 7, 2)])

    def test_change(self):
        self.deed(THREE, (1, 0), "change", (0, ("x",)), [("x",)] + THREE[1:], [])
        self.deed(THREE, (1, 0), "change", (1, ("x", "")), [("a", "b"), ("x", ""), ("longer", "d")], [(0, 1, 2, 7)])
        self.deed(THREE, (1, 0), "change", (2, ("a", "b")), THREE[:2] + [("a", "b")], [])
        page = [("a", "b"), ("longer", "c"), ("d", "e")]
        self.deed(page, (1, 0), "change", (1, ("x",)), [("a", "b"), ("x",), ("d", "e")],
                  [(0, 1, 7, 2), (2, 1, 7, 2)])

    def test_a_row_is_changed_to_itself(self):
        self.deed(THREE, (1, 0), "change", (1, ("c",)), THREE, [])

    def test_numbers_come_to_stand_to_the_right_or_to_the_left(self):
        page = [("1", "a"), ("22", "b"), ("333", "c")]
        self.deed(page, (1, 0), "change", (2, ("-44", "d")), page[:2] + [("-44", "d")], [])
        self.deed(page, (1, 0), "change", (2, ("abc", "d")), page[:2] + [("abc", "d")], [(0, 0, 2, 0), (1, 0, 1, 0)])
        self.deed(page, (1, 0), "take", (2,), page[:2], [(0, 0, 2, 1), (0, 1, 4, 3), (1, 0, 1, 0), (1, 1, 4, 3)])
        self.deed(page, (1, 0), "put", (0, ("", "d")), [("", "d")] + page, [])

    def test_the_least_holds_a_width(self):
        self.deed(THREE, (1, 12), "take", (1,), [THREE[0], THREE[2]], [])
        self.deed(THREE, (1, 5), "take", (1,), [THREE[0], THREE[2]], [(0, 1, 5, 7)])

    def test_one_row_and_thirty(self):
        self.deed([("a", "b")], (2, 0), "put", (0, ("ccc", "d")), [("ccc", "d"), ("a", "b")], [(1, 1, 3, 5)])
        self.deed([("a", "b")], (2, 0), "put", (1, ("ccc", "d")), [("a", "b"), ("ccc", "d")], [(0, 1, 3, 5)])
        self.deed([("a", "b")], (2, 0), "change", (0, ("",)), [("",)], [])
        page = [("a", "b")] * 29
        told = [(row, 1, 2, 4) for row in range(29)]
        self.deed(page, (1, 0), "put", (29, ("ccc", "d")), page + [("ccc", "d")], told)
        told = [(row, 1, 2, 4) for row in range(1, 30)]
        self.deed(page, (1, 0), "put", (0, ("ccc", "d")), [("ccc", "d")] + page, told)
        full = page + [("ccc", "d")]
        self.deed(full, (1, 0), "take", (29,), page, [(row, 1, 4, 2) for row in range(29)])
        self.deed(full, (1, 0), "take", (0,), full[1:], [])
        self.deed(full, (1, 0), "change", (29, ("",)), page + [("",)], [(row, 1, 4, 2) for row in range(29)])

    def test_rows_of_six_cells(self):
        six = ("a", "b", "c", "d", "e", "f")
        page = [six, ("x",), ("aa", "bb", "cc", "dd", "ee", "ff")]
        self.deed(page, (0, 0), "take", (1,), [page[0], page[2]],
                  [(0, 1, 1, 2), (0, 2, 2, 4), (0, 3, 3, 6), (0, 4, 4, 8), (0, 5, 5, 10)])


class Strikes(SheetCase):
    def test_at_the_begin_within_and_at_the_end(self):
        page = [("ab", "x"), ("c", "y")]
        self.deed(page, (1, 0), "strike", (0, 0, 0, "d"), [("dab", "x"), ("c", "y")], [(1, 1, 3, 4)])
        self.deed(page, (1, 0), "strike", (0, 0, 1, "d"), [("adb", "x"), ("c", "y")], [(1, 1, 3, 4)])
        self.deed(page, (1, 0), "strike", (0, 0, 2, "d"), [("abd", "x"), ("c", "y")], [(1, 1, 3, 4)])
        self.deed(page, (1, 0), "strike", (1, 0, 1, " "), [("ab", "x"), ("c ", "y")], [])
        self.deed(page, (1, 0), "strike", (1, 1, 0, "z"), [("ab", "x"), ("c", "zy")], [])
        self.deed(page, (1, 0), "strike", (1, 1, 1, "z"), [("ab", "x"), ("c", "yz")], [])

    def test_into_an_empty_cell(self):
        self.deed([("",)], (1, 0), "strike", (0, 0, 0, "a"), [("a",)], [])
        self.deed([("a", "", "b"), ("c", "", "d")], (0, 0), "strike", (0, 1, 0, "x"),
                  [("a", "x", "b"), ("c", "", "d")], [(1, 2, 1, 2)])

    def test_the_tenth_sign(self):
        self.deed([("123456789", "a"), ("", "b")], (1, 0), "strike", (0, 0, 9, "0"),
                  [("1234567890", "a"), ("", "b")], [(1, 0, 9, 10), (1, 1, 10, 11)])

    def test_a_tab_at_the_begin_within_and_at_the_end(self):
        page = [("abc",), ("d", "e")]
        self.deed(page, (1, 0), "strike", (0, 0, 0, "\t"), [("", "abc"), ("d", "e")], [])
        self.deed(page, (1, 0), "strike", (0, 0, 2, "\t"), [("ab", "c"), ("d", "e")], [(1, 1, 2, 3)])
        self.deed(page, (1, 0), "strike", (0, 0, 3, "\t"), [("abc", ""), ("d", "e")], [(1, 1, 2, 4)])
        self.deed(page, (1, 0), "strike", (1, 1, 0, "\t"), [("abc",), ("d", "", "e")], [])

    def test_a_tab_behind_which_cells_stand(self):
        page = [("ab", "c", "d"), ("e", "f", "ggg", "h")]
        self.deed(page, (0, 0), "strike", (0, 0, 1, "\t"), [("a", "b", "c", "d"), ("e", "f", "ggg", "h")],
                  [(1, 1, 2, 1), (1, 2, 3, 2), (1, 3, 6, 5)])

    def test_a_tab_in_an_empty_cell(self):
        self.deed([("",)], (4, 0), "strike", (0, 0, 0, "\t"), [("", "")], [])

    def test_the_sixth_cell(self):
        self.deed([("a", "b", "c", "d", "ef")], (1, 0), "strike", (0, 4, 1, "\t"),
                  [("a", "b", "c", "d", "e", "f")], [])

    def test_all_signs(self):
        for sign in model.SIGNS:
            self.deed([("a", "b")], (1, 0), "strike", (0, 0, 1, sign), [("a" + sign, "b")], [])

    def test_a_sign_that_turns_numbers_to_the_left(self):
        page = [("1", "a"), ("22", "b")]
        self.deed(page, (1, 0), "strike", (1, 0, 0, "-"), [("1", "a"), ("-22", "b")],
                  [(0, 0, 1, 2), (0, 1, 3, 4)])
        self.deed(page, (1, 0), "strike", (1, 0, 2, "-"), [("1", "a"), ("22-", "b")],
                  [(0, 0, 1, 0), (0, 1, 3, 4)])


class Erases(SheetCase):
    def test_at_the_begin_within_and_the_last_sign(self):
        page = [("abc", "x"), ("d", "y")]
        self.deed(page, (1, 0), "erase", (0, 0, 0), [("bc", "x"), ("d", "y")], [(1, 1, 4, 3)])
        self.deed(page, (1, 0), "erase", (0, 0, 1), [("ac", "x"), ("d", "y")], [(1, 1, 4, 3)])
        self.deed(page, (1, 0), "erase", (0, 0, 2), [("ab", "x"), ("d", "y")], [(1, 1, 4, 3)])
        self.deed(page, (1, 0), "erase", (1, 1, 0), [("abc", "x"), ("d", "")], [])

    def test_the_tab_at_a_cells_end(self):
        page = [("ab", "c"), ("d", "e")]
        self.deed(page, (1, 0), "erase", (0, 0, 2), [("abc",), ("d", "e")], [(1, 1, 3, 2)])
        self.deed(page, (1, 0), "erase", (1, 0, 1), [("ab", "c"), ("de",)], [])
        page = [("a", "b", "c", "d"), ("eee", "f", "g", "h")]
        self.deed(page, (0, 0), "erase", (0, 1, 1), [("a", "bc", "d"), ("eee", "f", "g", "h")],
                  [(1, 2, 4, 5), (1, 3, 5, 6)])

    def test_the_tab_beside_empty_cells(self):
        self.deed([("", "")], (1, 0), "erase", (0, 0, 0), [("",)], [])
        self.deed([("", "a")], (1, 0), "erase", (0, 0, 0), [("a",)], [])
        self.deed([("a", "")], (1, 0), "erase", (0, 0, 1), [("a",)], [])
        self.deed([("", "", "a")], (1, 0), "erase", (0, 1, 0), [("", "a")], [])

    def test_a_cell_of_ten_signs_and_a_row_of_six_cells(self):
        self.deed([("0123456789",)], (1, 0), "erase", (0, 0, 9), [("012345678",)], [])
        self.deed([("01234", "56789")], (1, 0), "erase", (0, 0, 5), [("0123456789",)], [])
        self.deed([("0123456789", "")], (1, 0), "erase", (0, 0, 10), [("0123456789",)], [])
        self.deed([("a", "b", "c", "d", "e", "f")], (1, 0), "erase", (0, 4, 1), [("a", "b", "c", "d", "ef")], [])


class PartsAndUnites(SheetCase):
    def test_part_at_a_rows_begin_within_and_at_its_end(self):
        page = [("a", "b"), ("longer", "c"), ("d", "e")]
        self.deed(page, (1, 0), "part", (1, 0, 0), [("a", "b"), ("",), ("longer", "c"), ("d", "e")], [(0, 1, 7, 2)])
        self.deed(page, (1, 0), "part", (1, 0, 4), [("a", "b"), ("long",), ("er", "c"), ("d", "e")],
                  [(0, 1, 7, 2), (3, 1, 7, 3)])
        self.deed(page, (1, 0), "part", (1, 1, 0), [("a", "b"), ("longer", ""), ("c",), ("d", "e")], [(3, 1, 7, 2)])
        self.deed(page, (1, 0), "part", (1, 1, 1), [("a", "b"), ("longer", "c"), ("",), ("d", "e")], [(3, 1, 7, 2)])

    def test_part_at_the_first_and_the_last_row(self):
        page = [("a", "b"), ("longer", "c")]
        self.deed(page, (1, 0), "part", (0, 0, 1), [("a",), ("", "b"), ("longer", "c")], [])
        self.deed(page, (1, 0), "part", (0, 1, 0), [("a", ""), ("b",), ("longer", "c")], [])
        self.deed(page, (1, 0), "part", (1, 0, 3), [("a", "b"), ("lon",), ("ger", "c")], [(0, 1, 7, 2)])
        self.deed([("ab",)], (1, 0), "part", (0, 0, 1), [("a",), ("b",)], [])
        self.deed([("",)], (1, 0), "part", (0, 0, 0), [("",), ("",)], [])

    def test_neither_half_of_a_parted_row_is_told(self):
        # The first row reads as before, and its second cell moves; but it is the one that is parted.
        self.deed([("a", "b"), ("longer", "c")], (1, 0), "part", (0, 1, 1), [("a", "b"), ("",), ("longer", "c")], [])
        self.deed([("longer", "c"), ("a", "b")], (1, 0), "part", (1, 0, 0), [("longer", "c"), ("",), ("a", "b")], [])

    def test_part_takes_the_cells_behind_along(self):
        self.deed([("a", "bc", "d", "e")], (1, 0), "part", (0, 1, 1), [("a", "b"), ("c", "d", "e")], [])
        self.deed([("a", "b", "c", "d", "e", "f")], (1, 0), "part", (0, 0, 0),
                  [("",), ("a", "b", "c", "d", "e", "f")], [])
        self.deed([("a", "b", "c", "d", "e", "0123456789")], (1, 0), "part", (0, 5, 10),
                  [("a", "b", "c", "d", "e", "0123456789"), ("",)], [])

    def test_part_to_the_thirtieth_row(self):
        page = [("a", "b")] * 28 + [("longer", "c")]
        self.deed(page, (1, 0), "part", (28, 0, 6), page[:28] + [("longer",), ("", "c")],
                  [(row, 1, 7, 2) for row in range(28)])

    def test_unite(self):
        page = [("a", "b"), ("longer",), ("c", "d"), ("e", "f")]
        self.deed(page, (1, 0), "unite", (0,), [("a", "blonger"), ("c", "d"), ("e", "f")], [])
        self.deed(page, (1, 0), "unite", (1,), [("a", "b"), ("longerc", "d"), ("e", "f")],
                  [(0, 1, 2, 8), (2, 1, 2, 8)])
        self.deed(page, (1, 0), "unite", (2,), [("a", "b"), ("longer",), ("c", "de", "f")], [])

    def test_neither_of_united_rows_is_told(self):
        # Here, too, a row that reads as before is the one that is united.
        self.deed([("a", "b"), ("",), ("longer", "c")], (1, 0), "unite", (0,), [("a", "b"), ("longer", "c")], [])
        self.deed([("a", "b"), ("",), ("longer", "c")], (1, 0), "unite", (1,), [("a", "b"), ("longer", "c")],
                  [(0, 1, 2, 7)])

    def test_unite_empty_rows(self):
        self.deed([("",), ("",)], (1, 0), "unite", (0,), [("",)], [])
        self.deed([("a", ""), ("", "b")], (1, 0), "unite", (0,), [("a", "", "b")], [])

    def test_unite_to_the_most_cells_and_signs(self):
        self.deed([("a", "b", "c"), ("d", "e", "f", "g")], (1, 0), "unite", (0,),
                  [("a", "b", "cd", "e", "f", "g")], [])
        self.deed([("0123",), ("456789",)], (1, 0), "unite", (0,), [("0123456789",)], [])

    def test_unite_of_thirty_rows(self):
        page = [("a", "b")] * 28 + [("longer",), ("", "c")]
        self.deed(page, (1, 0), "unite", (28,), page[:28] + [("longer", "c")], [(row, 1, 2, 7) for row in range(28)])
        self.deed(page, (1, 0), "unite", (0,), [("a", "ba", "b")] + page[2:], [])


class Back(SheetCase):
    def test_nothing_to_take_back(self):
        sheet = Sheet(THREE, (1, 0))
        self.all_back(sheet, (1, 0), [])
        self.stands(sheet, THREE, (1, 0))

    def test_each_deed_one_at_a_time(self):
        style = (1, 0)
        sheet = Sheet(THREE, style)
        pages = []
        for name, *handed in (("put", 0, ("x", "yy")), ("take", 2), ("change", 1, ("ccc", "dd")),
                              ("strike", 0, 1, 1, "z"), ("strike", 0, 1, 1, "\t"), ("erase", 0, 2, 0),
                              ("erase", 0, 1, 1), ("part", 1, 0, 2), ("unite", 0), ("put", 3, ("",)),
                              ("change", 3, ("",))):
            pages.append(sheet.page())
            self.does(sheet, style, name, *handed)
        self.all_back(sheet, style, pages)
        self.stands(sheet, THREE, style)

    def test_a_deed_behind_a_back(self):
        style = (1, 0)
        sheet = Sheet(THREE, style)
        self.does(sheet, style, "take", 1)
        self.does(sheet, style, "strike", 0, 0, 1, "x")
        self.assertIs(sheet.back(), True)
        self.does(sheet, style, "part", 1, 0, 3)
        self.all_back(sheet, style, [THREE, [THREE[0], THREE[2]]])

    def test_deeds_behind_the_last_back(self):
        style = (1, 0)
        sheet = Sheet(THREE, style)
        sheet.take(0)
        self.assertIs(sheet.back(), True)
        self.assertIs(sheet.back(), False)
        self.does(sheet, style, "unite", 1)
        self.all_back(sheet, style, [THREE])

    def test_a_row_changed_to_itself_is_a_deed(self):
        sheet = Sheet(THREE, (1, 0))
        sheet.take(0)
        sheet.change(0, ("c",))
        self.all_back(sheet, (1, 0), [THREE, THREE[1:]])

    def test_more_deeds_than_a_page_has_rows(self):
        sheet = Sheet([("a", "b")], (1, 0))
        pages = []
        for turn in range(60):
            pages.append(sheet.page())
            if turn % 2 == 0:
                sheet.strike(0, 0, 1, "x")
            else:
                sheet.erase(0, 0, 0)
        self.all_back(sheet, (1, 0), pages)


class ManyDeeds(SheetCase):
    """Deeds of all kinds in turn, each as the model has it, and all taken back."""

    def any_deed(self, chance, page):
        name = chance.choice(sorted(model.DEEDS) + ["strike", "strike", "erase"])
        number = chance.randrange(len(page) + (name == "put"))
        if name in ("put", "change"):
            cells = chance.choice((("", "1", "-22"), ("a", "word", "12")))
            return (name, number, tuple(chance.choice(cells) for _ in range(chance.randint(1, 6))))
        if name == "take":
            return (name, number)
        if name == "unite":
            return (name, chance.randrange(len(page) - 1) if len(page) > 1 else 0)
        cell = chance.randrange(len(page[number]))
        place = chance.choice((0, len(page[number][cell]), chance.randint(0, len(page[number][cell]))))
        if name == "strike":
            return (name, number, cell, place, chance.choice(("a", "7", "-", " ", "\t", "\t")))
        return (name, number, cell, place)

    def refused(self, page, name, number, *handed):
        """The refusal that the document tells, or None."""
        if name == "unite" and len(page) == 1:
            return "BadRow"
        if name == "erase" and handed == (len(page[number]) - 1, len(page[number][-1])):
            return "BadCell"
        return model.misfit(model.DEEDS[name](page, number, *handed)[0])

    def walk(self, seed, page, style, many):
        chance = random.Random(seed)
        sheet = Sheet(page, style)
        pages = []
        for _ in range(many):
            name, *handed = self.any_deed(chance, sheet.page())
            why = self.refused(sheet.page(), name, *handed)
            if why is None:
                pages.append(sheet.page())
                self.does(sheet, style, name, *handed)
            else:
                self.refuses(why, None, getattr(sheet, name), *handed)
            if pages and chance.random() < 0.15:
                self.assertIs(sheet.back(), True)
                self.stands(sheet, pages.pop(), style)
        self.all_back(sheet, style, pages)

    def test_small_pages(self):
        for seed, (page, style) in enumerate(zip(made_pages(31, 40), made_styles(32, 40))):
            self.walk(seed, page, style, 25)

    def test_one_row(self):
        for seed in range(10):
            self.walk(seed, [("",)], (1, 0), 25)

    def test_thirty_rows(self):
        for seed, page in enumerate(made_pages(33, 8, 30)):
            self.walk(seed, (page * 30)[:30], (2, 3), 25)

    def test_rows_and_cells_at_their_most(self):
        for seed in range(6):
            self.walk(seed, [("0123456789",) * 6] * 3 + [("word",) * 6] * 3, (1, 0), 25)


if __name__ == "__main__":
    unittest.main()
