"""[11] and [12]: where a cursor goes, what it presses and rubs, and what it refuses."""

import random
import unittest

from tabgrow.cursors import Cursor
from tabgrow.laying import laid
from tests import model
from tests.common import GrowCase, made_pages, made_styles, spoil

PAGE = [("ab", "12"), ("", "", "x"), ("word",)]
STYLE = (1, 0)
NO_SIGNS = ("", "ab", "  ", "%", "\r", "\x00", "\x1f", "\x7f", "\x80", "\u00e9", "\u3000", "\t\t", "\n\n", "\t\n",
            "a\n", "\na", "\r\n", None, True, False, 0, 1, 10, (), ("a",), [], ["a"], ["\n"], ("\n",))


def all_spots(page):
    return [(row, cell, place) for row, cells in enumerate(page)
            for cell, text in enumerate(cells) for place in range(len(text) + 1)]


def cursor_at(page, style, spot):
    """A cursor that stands at a spot, gone there by right alone."""
    cursor = Cursor(page, style)
    while cursor.at() != spot:
        if not cursor.right():
            raise AssertionError(spot)
    return cursor


class CursorCase(GrowCase):
    def stands(self, cursor, spot, page, style):
        """The cursor stands there, in that page."""
        row, cell, place = spot
        for _ in range(2):
            self.same(cursor.at(), spot)
            self.same(cursor.aside(), laid(page, style)[row][cell] + place)
            told = cursor.page()
            self.same(told, page)
            spoil(told)

    def goes(self, page, style, way, spot, later, went=True):
        cursor = cursor_at(page, style, spot)
        self.assertIs(getattr(cursor, way)(), went)
        self.stands(cursor, later, page, style)
        self.assertIs(cursor.back(), False)

    def presses(self, page, style, spot, sign, later, stands):
        """A press leads there; the first back behind it to the page as it was."""
        cursor = cursor_at(page, style, spot)
        self.assertIsNone(cursor.press(sign))
        self.stands(cursor, stands, later, style)
        self.taken_back(cursor, page, style)

    def rubs(self, page, style, spot, later, stands):
        cursor = cursor_at(page, style, spot)
        self.assertIsNone(cursor.rub())
        self.stands(cursor, stands, later, style)
        self.taken_back(cursor, page, style)

    def taken_back(self, cursor, page, style):
        self.assertIs(cursor.back(), True)
        self.stands(cursor, (0, 0, 0), page, style)
        self.assertIs(cursor.back(), False)
        self.stands(cursor, (0, 0, 0), page, style)

    def refused(self, name, page, spot, deed, *handed):
        """A deed is refused, and all is as it was; there is nothing more to take back."""
        cursor = cursor_at(page, STYLE, spot)
        self.refuses(name, None, getattr(cursor, deed), *handed)
        self.stands(cursor, spot, page, STYLE)
        self.assertIs(cursor.back(), False)


class Made(CursorCase):
    def test_at_the_pages_begin(self):
        self.stands(Cursor(PAGE, STYLE), (0, 0, 0), PAGE, STYLE)
        self.same(Cursor(PAGE, STYLE).aside(), 0)
        self.same(Cursor([("1", "a"), ("234", "b")], STYLE).aside(), 2)

    def test_a_page_handed_in_is_not_kept(self):
        page = [("a", "b"), ("c", "d")]
        cursor = Cursor(page, STYLE)
        page[0] = ("longest", "b")
        page.append(("e",))
        self.stands(cursor, (0, 0, 0), [("a", "b"), ("c", "d")], STYLE)
        page.clear()
        self.stands(cursor, (0, 0, 0), [("a", "b"), ("c", "d")], STYLE)

    def test_a_page_handed_in_stays(self):
        page = [("a", "b"), ("c", "d")]
        cursor = Cursor(page, STYLE)
        cursor.press("x")
        cursor.press("\n")
        cursor.rub()
        cursor.back()
        self.same(page, [("a", "b"), ("c", "d")])

    def test_two_cursors_of_one_page(self):
        page = [("a", "b"), ("c", "d")]
        one, other = Cursor(page, STYLE), Cursor(page, (2, 0))
        one.right()
        one.press("x")
        self.stands(one, (0, 0, 2), [("ax", "b"), ("c", "d")], STYLE)
        self.stands(other, (0, 0, 0), page, (2, 0))
        self.assertIs(other.back(), False)
        other.press("\n")
        self.stands(other, (1, 0, 0), [("",), ("a", "b"), ("c", "d")], (2, 0))
        self.stands(one, (0, 0, 2), [("ax", "b"), ("c", "d")], STYLE)
        self.assertIs(one.back(), True)
        self.assertIs(one.back(), False)


class LeftAndRight(CursorCase):
    TURN = [(0, 0, 0), (0, 0, 1), (0, 0, 2), (0, 1, 0), (0, 1, 1), (0, 1, 2), (1, 0, 0), (1, 1, 0), (1, 2, 0),
            (1, 2, 1), (2, 0, 0), (2, 0, 1), (2, 0, 2), (2, 0, 3), (2, 0, 4)]
    ASIDES = [0, 1, 2, 3, 4, 5, 0, 3, 4, 5, 0, 1, 2, 3, 4]

    def test_right_through_the_page(self):
        cursor = Cursor(PAGE, STYLE)
        for spot, aside in zip(self.TURN, self.ASIDES):
            self.stands(cursor, spot, PAGE, STYLE)
            self.same(cursor.aside(), aside)
            self.assertIs(cursor.right(), spot != self.TURN[-1])
        self.stands(cursor, self.TURN[-1], PAGE, STYLE)

    def test_left_through_the_page(self):
        cursor = cursor_at(PAGE, STYLE, self.TURN[-1])
        for spot in reversed(self.TURN):
            self.stands(cursor, spot, PAGE, STYLE)
            self.assertIs(cursor.left(), spot != (0, 0, 0))
        self.stands(cursor, (0, 0, 0), PAGE, STYLE)

    def test_to_and_fro(self):
        for page, style in zip(made_pages(41, 15, 4), made_styles(42, 15)):
            for spot, later in zip(all_spots(page), all_spots(page)[1:]):
                self.goes(page, style, "right", spot, later)
                self.goes(page, style, "left", later, spot)

    def test_at_the_pages_begin_and_end(self):
        for page in ([("",)], [("a",)], PAGE, [("a", "")], [("",), ("",)], [("a", "b")] * 30):
            spots = all_spots(page)
            self.goes(page, STYLE, "left", spots[0], spots[0], False)
            self.goes(page, STYLE, "right", spots[-1], spots[-1], False)

    def test_cells_that_stand_to_the_right(self):
        page = [("1", "a"), ("-22", "b")]
        cursor = Cursor(page, (2, 6))
        for aside in (3, 4, 6, 7, 1, 2, 3, 4, 6, 7):
            self.same(cursor.aside(), aside)
            cursor.right()


class UpAndDown(CursorCase):
    def test_at_the_first_and_the_last_row(self):
        for page in (PAGE, [("",)], [("ab", "c")]):
            for spot in all_spots(page):
                if spot[0] == 0:
                    self.goes(page, STYLE, "up", spot, spot, False)
                if spot[0] == len(page) - 1:
                    self.goes(page, STYLE, "down", spot, spot, False)

    def test_rows_as_long(self):
        page = [("abcd",), ("efgh",)]
        for place in range(5):
            self.goes(page, STYLE, "down", (0, 0, place), (1, 0, place))
            self.goes(page, STYLE, "up", (1, 0, place), (0, 0, place))

    def test_rows_that_are_shorter(self):
        page = [("abcdef",), ("gh",), ("ijklmn",)]
        for place, wanted in enumerate((0, 1, 2, 2, 2, 2, 2)):
            self.goes(page, STYLE, "down", (0, 0, place), (1, 0, wanted))
            self.goes(page, STYLE, "up", (2, 0, place), (1, 0, wanted))
        self.goes([("abc",), ("",)], STYLE, "down", (0, 0, 3), (1, 0, 0))

    def test_where_it_stood_two_rows_ago_counts_no_more(self):
        cursor = cursor_at([("abcdef",), ("gh",), ("ijklmn",)], STYLE, (0, 0, 5))
        self.assertIs(cursor.down(), True)
        self.assertIs(cursor.down(), True)
        self.same(cursor.at(), (2, 0, 2))

    def test_rows_that_are_longer(self):
        page = [("gh",), ("ab", "cd", "ef")]
        for place, spot in ((0, (1, 0, 0)), (1, (1, 0, 1)), (2, (1, 0, 2))):
            self.goes(page, STYLE, "down", (0, 0, place), spot)

    def test_between_a_cells_end_and_the_next_begin(self):
        page = [("abcdefghij",), ("ab", "c", "d")]
        wanted = ((0, 0), (0, 1), (0, 2), (0, 2), (0, 2), (0, 2), (1, 0), (1, 1), (1, 1), (1, 1), (1, 1))
        for place, spot in enumerate(wanted):
            self.goes(page, (4, 0), "down", (0, 0, place), (1, *spot))

    def test_the_last_of_several_places_equally_far(self):
        page = [("abc",), ("ab", "", "", "c")]
        self.goes(page, (0, 0), "down", (0, 0, 1), (1, 0, 1))
        self.goes(page, (0, 0), "down", (0, 0, 2), (1, 3, 0))
        self.goes(page, (0, 0), "down", (0, 0, 3), (1, 3, 1))
        page = [("", "", "a"), ("b",)]
        self.goes(page, (0, 0), "up", (1, 0, 0), (0, 2, 0))
        self.goes(page, (0, 0), "up", (1, 0, 1), (0, 2, 1))
        page = [("ab", "c"), ("xy", "z")]
        self.goes(page, (0, 0), "down", (0, 0, 2), (1, 1, 0))
        self.goes(page, (0, 0), "up", (1, 1, 0), (0, 1, 0))

    def test_no_place_that_is_no_farther(self):
        page = [("abc",), ("1", "a"), ("234", "b"), ("x",)]
        self.goes(page, STYLE, "down", (0, 0, 0), (1, 0, 0))
        self.goes(page, STYLE, "down", (0, 0, 1), (1, 0, 0))
        self.goes(page, STYLE, "down", (0, 0, 2), (1, 0, 0))
        self.goes(page, STYLE, "down", (0, 0, 3), (1, 0, 1))
        self.goes(page, STYLE, "up", (2, 0, 0), (1, 0, 0))
        self.goes(page, STYLE, "up", (2, 0, 3), (1, 0, 1))
        self.goes(page, STYLE, "up", (3, 0, 1), (2, 0, 1))

    def test_cells_that_stand_to_the_right_and_empty_ones(self):
        page = [("1", "", "a"), ("22", "333", "b")]
        self.same(laid(page, (1, 0)), [[1, 6, 7], [0, 3, 7]])
        for spot, later in (((1, 0, 0), (0, 0, 0)), ((1, 0, 1), (0, 0, 0)), ((1, 0, 2), (0, 0, 1)),
                            ((1, 1, 2), (0, 0, 1)), ((1, 1, 3), (0, 1, 0)), ((1, 2, 0), (0, 2, 0))):
            self.goes(page, (1, 0), "up", spot, later)

    def test_as_the_model_has_it(self):
        for page, style in zip(made_pages(43, 40, 5), made_styles(44, 40)):
            for spot in all_spots(page):
                for way, by in (("up", -1), ("down", 1)):
                    row = spot[0] + by
                    if 0 <= row < len(page):
                        aside = laid(page, style)[spot[0]][spot[1]] + spot[2]
                        near = [each for far, each in model.laid_spots(page, style, row) if far <= aside]
                        self.goes(page, style, way, spot, (near or [(row, 0, 0)])[-1])


class Presses(CursorCase):
    def test_a_sign(self):
        self.presses(PAGE, STYLE, (0, 0, 0), "x", [("xab", "12")] + PAGE[1:], (0, 0, 1))
        self.presses(PAGE, STYLE, (0, 0, 1), "x", [("axb", "12")] + PAGE[1:], (0, 0, 2))
        self.presses(PAGE, STYLE, (0, 0, 2), "x", [("abx", "12")] + PAGE[1:], (0, 0, 3))
        self.presses(PAGE, STYLE, (1, 1, 0), " ", PAGE[:1] + [("", " ", "x")] + PAGE[2:], (1, 1, 1))
        self.presses(PAGE, STYLE, (2, 0, 4), "~", PAGE[:2] + [("word~",)], (2, 0, 5))

    def test_all_signs(self):
        for sign in model.SIGNS:
            self.presses([("a", "b")], STYLE, (0, 1, 0), sign, [("a", sign + "b")], (0, 1, 1))

    def test_a_tab(self):
        self.presses(PAGE, STYLE, (0, 0, 0), "\t", [("", "ab", "12")] + PAGE[1:], (0, 1, 0))
        self.presses(PAGE, STYLE, (0, 0, 1), "\t", [("a", "b", "12")] + PAGE[1:], (0, 1, 0))
        self.presses(PAGE, STYLE, (0, 1, 2), "\t", [("ab", "12", "")] + PAGE[1:], (0, 2, 0))
        self.presses(PAGE, STYLE, (1, 0, 0), "\t", PAGE[:1] + [("", "", "", "x")] + PAGE[2:], (1, 1, 0))
        self.presses(PAGE, STYLE, (2, 0, 2), "\t", PAGE[:2] + [("wo", "rd")], (2, 1, 0))

    def test_a_lines_end(self):
        self.presses(PAGE, STYLE, (0, 0, 0), "\n", [("",)] + PAGE, (1, 0, 0))
        self.presses(PAGE, STYLE, (0, 0, 1), "\n", [("a",), ("b", "12")] + PAGE[1:], (1, 0, 0))
        self.presses(PAGE, STYLE, (0, 1, 1), "\n", [("ab", "1"), ("2",)] + PAGE[1:], (1, 0, 0))
        self.presses(PAGE, STYLE, (1, 1, 0), "\n", PAGE[:1] + [("", ""), ("", "x")] + PAGE[2:], (2, 0, 0))
        self.presses(PAGE, STYLE, (2, 0, 4), "\n", PAGE + [("",)], (3, 0, 0))
        self.presses([("a", "b")] * 29, STYLE, (28, 1, 1), "\n", [("a", "b")] * 29 + [("",)], (29, 0, 0))

    def test_a_page_that_is_pressed(self):
        cursor = Cursor([("",)], STYLE)
        for sign in "ab\t1\n\n22\t\tx":
            cursor.press(sign)
        self.stands(cursor, (2, 2, 1), [("ab", "1"), ("",), ("22", "", "x")], STYLE)


class Rubs(CursorCase):
    def test_a_sign(self):
        self.rubs(PAGE, STYLE, (0, 0, 1), [("b", "12")] + PAGE[1:], (0, 0, 0))
        self.rubs(PAGE, STYLE, (0, 0, 2), [("a", "12")] + PAGE[1:], (0, 0, 1))
        self.rubs(PAGE, STYLE, (1, 2, 1), PAGE[:1] + [("", "", "")] + PAGE[2:], (1, 2, 0))
        self.rubs(PAGE, STYLE, (2, 0, 4), PAGE[:2] + [("wor",)], (2, 0, 3))
        self.rubs([("0123456789",)], STYLE, (0, 0, 10), [("012345678",)], (0, 0, 9))

    def test_a_tab(self):
        self.rubs(PAGE, STYLE, (0, 1, 0), [("ab12",)] + PAGE[1:], (0, 0, 2))
        self.rubs(PAGE, STYLE, (1, 1, 0), PAGE[:1] + [("", "x")] + PAGE[2:], (1, 0, 0))
        self.rubs(PAGE, STYLE, (1, 2, 0), PAGE[:1] + [("", "x")] + PAGE[2:], (1, 1, 0))

    def test_a_rows_end(self):
        self.rubs(PAGE, STYLE, (1, 0, 0), [("ab", "12", "", "x"), ("word",)], (0, 1, 2))
        self.rubs(PAGE, STYLE, (2, 0, 0), [("ab", "12"), ("", "", "xword")], (1, 2, 1))
        self.rubs([("",), ("",)], STYLE, (1, 0, 0), [("",)], (0, 0, 0))
        self.rubs([("a",)] * 30, STYLE, (29, 0, 0), [("a",)] * 28 + [("aa",)], (28, 0, 1))

    def test_what_was_pressed(self):
        for spot in all_spots(PAGE):
            for sign in ("x", "\t", "\n"):
                cursor = cursor_at(PAGE, STYLE, spot)
                cursor.press(sign)
                cursor.rub()
                self.stands(cursor, spot, PAGE, STYLE)
                self.assertIs(cursor.back(), True)
                self.assertIs(cursor.back(), True)
                self.stands(cursor, (0, 0, 0), PAGE, STYLE)
                self.assertIs(cursor.back(), False)


class Refusals(CursorCase):
    def test_what_is_no_sign(self):
        for sign in NO_SIGNS:
            for spot in ((0, 0, 0), (0, 0, 2), (1, 1, 0), (2, 0, 4)):
                self.refused("BadCell", PAGE, spot, "press", sign)
        for number in list(range(32)) + [37] + list(range(127, 300)):
            if number not in (9, 10):
                self.refused("BadCell", PAGE, (0, 0, 1), "press", chr(number))

    def test_press_beyond_the_most(self):
        for place in (0, 4, 10):
            self.refused("BadCell", [("a", "0123456789")], (0, 1, place), "press", "x")
        for spot in ((0, 0, 0), (0, 5, 1)):
            self.refused("BadCell", [("a",) * 6], spot, "press", "\t")
        for spot in ((0, 0, 0), (15, 1, 0), (29, 1, 1)):
            self.refused("BadRow", [("a", "b")] * 30, spot, "press", "\n")

    def test_rub_at_the_pages_begin(self):
        for page in (PAGE, [("",)], [("", "a")], [("a",)] * 30):
            self.refused("BadCell", page, (0, 0, 0), "rub")

    def test_rub_beyond_the_most(self):
        self.refused("BadCell", [("012345", "56789")], (0, 1, 0), "rub")
        self.refused("BadCell", [("012345",), ("56789",)], (1, 0, 0), "rub")
        self.refused("BadCell", [("a",) * 6, ("a", "b")], (1, 0, 0), "rub")
        self.refused("BadCell", [("a",)] + [("a",) * 4] * 2, (2, 0, 0), "rub")

    def test_deeds_behind_a_refusal(self):
        cursor = cursor_at(PAGE, STYLE, (0, 0, 2))
        cursor.press("c")
        self.refuses("BadCell", None, cursor.press, "cd")
        cursor.press("d")
        self.stands(cursor, (0, 0, 4), [("abcd", "12")] + PAGE[1:], STYLE)
        self.assertIs(cursor.back(), True)
        self.stands(cursor, (0, 0, 0), [("abc", "12")] + PAGE[1:], STYLE)


class Back(CursorCase):
    def test_it_stands_at_the_pages_begin_then(self):
        cursor = cursor_at(PAGE, STYLE, (1, 2, 0))
        cursor.press("y")
        cursor.press("\n")
        self.assertIs(cursor.back(), True)
        self.stands(cursor, (0, 0, 0), [PAGE[0], ("", "", "yx"), PAGE[2]], STYLE)
        cursor.down()
        cursor.right()
        self.assertIs(cursor.back(), True)
        self.stands(cursor, (0, 0, 0), PAGE, STYLE)

    def test_it_stands_there_too_if_nothing_was_taken_back(self):
        cursor = cursor_at(PAGE, STYLE, (1, 2, 0))
        self.assertIs(cursor.back(), False)
        self.stands(cursor, (0, 0, 0), PAGE, STYLE)

    def test_goings_are_not_taken_back(self):
        cursor = Cursor(PAGE, STYLE)
        cursor.press("x")
        for way in ("right", "left", "down", "up", "right"):
            getattr(cursor, way)()
        self.assertIs(cursor.back(), True)
        self.stands(cursor, (0, 0, 0), PAGE, STYLE)
        self.assertIs(cursor.back(), False)


class ManyDeeds(CursorCase):
    """Goings and deeds in turn, each as the model's text has it, and all taken back."""

    def one(self, chance, cursor, page, style, spot):
        """One press or rub; tell the page and the spot behind it."""
        text = model.text_of(page)
        sign = chance.choice(("a", "7", " ", "\t", "\n", "", ""))
        if sign == "" and spot == 0:
            self.refuses("BadCell", None, cursor.rub)
            return page, spot
        ahead = text[:spot] + sign if sign else text[:spot - 1]
        later = model.page_of(ahead + text[spot:])
        why = model.misfit(later)
        call, handed = (cursor.press, (sign,)) if sign else (cursor.rub, ())
        if why is not None:
            self.refuses(why, None, call, *handed)
            return page, spot
        self.assertIsNone(call(*handed))
        return later, len(ahead)

    def go(self, chance, cursor, page, spot):
        """One going to the left or right; tell the spot behind it."""
        later = spot + chance.choice((-1, 1))
        went = 0 <= later <= len(model.text_of(page))
        self.assertIs(cursor.left() if later < spot else cursor.right(), went)
        return later if went else spot

    def walk(self, seed, page, style):
        chance = random.Random(seed)
        cursor, pages, spot = Cursor(page, style), [page], 0
        for _ in range(40):
            if chance.random() < 0.5:
                spot = self.go(chance, cursor, pages[-1], spot)
            else:
                page, spot = self.one(chance, cursor, pages[-1], style, spot)
                if page != pages[-1]:
                    pages.append(page)
            self.stands(cursor, model.at_of(model.text_of(pages[-1]), spot), pages[-1], style)
        while len(pages) > 1:
            pages.pop()
            self.assertIs(cursor.back(), True)
            self.stands(cursor, (0, 0, 0), pages[-1], style)
        self.assertIs(cursor.back(), False)

    def test_small_pages(self):
        for seed, (page, style) in enumerate(zip(made_pages(45, 30, 4), made_styles(46, 30))):
            self.walk(seed, page, style)

    def test_rows_and_cells_at_their_most(self):
        for seed, page in enumerate(([("a",) * 6] * 29, [("a",)] * 30, [("0123456789",) * 5], [("",)])):
            self.walk(seed, page, STYLE)


if __name__ == "__main__":
    unittest.main()
