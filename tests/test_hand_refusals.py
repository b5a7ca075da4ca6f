"""[16] and [17]: what a table refuses, in the order told, and that nothing is changed by it."""

import unittest

from tabgrow.hands import Table
from tabgrow.laying import laid
from tests.common import NO_LISTS, GrowCase

STYLE = (1, 0)
NO_HANDS = (None, True, False, "", "0", "1", "a", (), (0,), [], [0], -1, -2, 4, 5, 100)
NO_SIGNS = ("", "ab", "a ", "  ", "%", "\r", "\x00", "\x1f", "\x7f", "\x80", "\u00e9", "\u00b2", "\u3000", "\t\t",
            "\n\n", "\t\n", "a\t", "\na", "\r\n", "\ud800", "\U0001f600", None, True, False, 0, 1, 10, 97, (), ("a",),
            [], ["a"], ["\t"], ("\n",))
SIX = ("a", "b", "c", "d", "e", "f")


class Refused(GrowCase):
    def state(self, table):
        return table.page(), table.begins(), table.told(), [table.at(hand) for hand in range(len(table.spots))]

    def refused(self, name, table, deed, *handed):
        """A deed is refused, and all is as it was."""
        before = self.state(table)
        self.refuses(name, None, getattr(table, deed), *handed)
        self.same(self.state(table), before)

    def does(self, table, *deeds):
        for name, *handed in deeds:
            wanted = None if name in ("press", "rub") else True
            self.assertIs(getattr(table, name)(*handed), wanted, (name, handed))

    def table(self, page, *rights):
        """A table whose hands have gone so many places to the right."""
        table = Table(page, STYLE, len(rights))
        for hand, many in enumerate(rights):
            self.does(table, *[("right", hand)] * many)
        return table

    def page_is(self, table, page):
        self.same(table.page(), page)
        self.same(table.begins(), laid(page, STYLE))


class Counts(Refused):
    def test_how_many_hands(self):
        for hands in (0, 5, -1, 100, True, False, None, "", "1", (), (1,), (0, 1), [], [1]):
            self.refuses("BadCount", None, Table, [("a",)], STYLE, hands)
        for hands in range(1, 5):
            table = Table([("a",)], STYLE, hands)
            self.same([table.at(hand) for hand in range(hands)], [(0, 0, 0)] * hands)
            self.refused("BadHand", table, "at", hands)

    def test_page_then_style_then_hands(self):
        for hands in (0, 5, None, True, 1):
            for page in NO_LISTS + ([],):
                self.refuses("BadPage", 0, Table, page, STYLE, hands)
                self.refuses("BadPage", 0, Table, page, None, hands)
            self.refuses("BadPage", 1, Table, [("a",), ("%",)], (5, 0), hands)
            self.refuses("BadPage", 30, Table, [("a",)] * 31, STYLE, hands)
            for style in NO_LISTS + ((5, 0), (0, 13), (True, 0), (0, False), [1, 0], (1, 0, 0)):
                self.refuses("BadStyle", None, Table, [("a",)], style, hands)


class Hands(Refused):
    def test_hands_that_there_are_not(self):
        for hands in range(1, 5):
            table = self.table([("a", "b")], *[1] * hands)
            self.does(table, ("press", 0, "x"), ("press", 0, "y"), ("back", 0))
            for hand in NO_HANDS + (hands,):
                for deed in ("rub", "back", "again", "left", "right", "at"):
                    self.refused("BadHand", table, deed, hand)
                self.refused("BadHand", table, "press", hand, "z")
            self.does(table, ("again", 0))
            self.page_is(table, [("axy", "b")])

    def test_ahead_of_what_else_is_refused(self):
        table = self.table([("0123456789",) * 6] * 30, 0, 0)
        for hand in NO_HANDS + (2,):
            for sign in NO_SIGNS + ("a", "\t", "\n"):
                self.refused("BadHand", table, "press", hand, sign)
            self.refused("BadHand", table, "rub", hand)


class Cells(Refused):
    def test_signs_that_are_none(self):
        for sign in NO_SIGNS:
            self.refused("BadCell", self.table([("ab",)], 0, 1), "press", 1, sign)
            # Ahead of what would be too much.
            self.refused("BadCell", self.table([("0123456789",) * 6] * 30, 3), "press", 0, sign)
        for number in list(range(32)) + [37] + list(range(127, 300)):
            if number not in (9, 10):
                self.refused("BadCell", self.table([("ab",)], 1), "press", 0, chr(number))

    def test_a_rub_at_the_begin(self):
        self.refused("BadCell", self.table([("ab",)], 0), "rub", 0)
        self.refused("BadCell", self.table([("",)], 0, 0), "rub", 1)
        self.refused("BadCell", self.table([("",), ("a",)], 0, 2), "rub", 0)

    def test_a_rub_where_all_ahead_vanished(self):
        table = self.table([("abc",)], 1, 1)
        self.does(table, ("press", 1, "x"), ("back", 1), ("rub", 0))
        self.refused("BadCell", table, "rub", 0)
        self.refused("BadCell", table, "rub", 1)
        self.does(table, ("back", 0), ("rub", 1))
        self.page_is(table, [("bc",)])

    def test_what_was_taken_back_can_stand_again_behind_a_refusal(self):
        table = self.table([("ab",)], 0)
        self.does(table, ("press", 0, "x"), ("press", 0, "y"), ("back", 0), ("back", 0))
        self.refused("BadCell", table, "press", 0, "%")
        self.refused("BadCell", table, "rub", 0)
        self.does(table, ("again", 0), ("again", 0))
        self.page_is(table, [("xyab",)])


class TooMuchByPress(Refused):
    def test_an_eleventh_sign(self):
        for many in (0, 5, 10):
            for sign in ("x", " ", "1"):
                self.refused("TooMuch", self.table([("0123456789", "a"), ("b",)], many), "press", 0, sign)
        self.refused("TooMuch", self.table([("a", "0123456789")], 0, 12), "press", 1, "x")

    def test_a_seventh_cell(self):
        for many in (0, 4, 11):
            self.refused("TooMuch", self.table([("x",), SIX], many + 2), "press", 0, "\t")

    def test_a_thirty_first_row(self):
        for many in (0, 1, 45, 59):
            self.refused("TooMuch", self.table([("a",)] * 30, many), "press", 0, "\n")

    def test_what_there_is_room_for(self):
        table = self.table([("0123456789",)], 5)
        self.does(table, ("press", 0, "\t"), ("press", 0, "x"), ("press", 0, "\n"))
        self.page_is(table, [("01234", "x"), ("56789",)])
        table = self.table([SIX] + [("a",)] * 28, 5)
        self.does(table, ("press", 0, "\n"), ("press", 0, "\t"))
        self.page_is(table, [("a", "b", "c"), ("", "", "d", "e", "f")] + [("a",)] * 28)

    def test_room_that_comes_later(self):
        table = self.table([("0123456789",)], 0, 10)
        self.refused("TooMuch", table, "press", 0, "x")
        self.does(table, ("rub", 1), ("press", 0, "x"))
        self.page_is(table, [("x012345678",)])

    def test_what_was_taken_back_can_stand_again_behind_a_refusal(self):
        table = self.table([("0123456789",), ("",)], 11)
        self.does(table, ("press", 0, "a"), ("press", 0, "b"), ("back", 0), ("back", 0), ("left", 0))
        self.refused("TooMuch", table, "press", 0, "x")
        self.does(table, ("again", 0), ("again", 0))
        self.page_is(table, [("0123456789",), ("ab",)])
        self.does(table, ("back", 0), ("back", 0))
        self.same(table.back(0), False)


class TooMuchByRub(Refused):
    def test_cells_that_join(self):
        self.refused("TooMuch", self.table([("012345", "56789")], 7), "rub", 0)
        self.refused("TooMuch", self.table([("a", "", "0123456789", "0")], 0, 14), "rub", 1)
        table = self.table([("01234", "56789")], 6)
        self.does(table, ("rub", 0))
        self.page_is(table, [("0123456789",)])

    def test_rows_that_join(self):
        self.refused("TooMuch", self.table([("a",), ("012345",), ("56789",)], 9), "rub", 0)
        self.refused("TooMuch", self.table([SIX, ("", "")], 12), "rub", 0)
        self.refused("TooMuch", self.table([("", "", "", ""), ("", "", "", "")], 4), "rub", 0)
        table = self.table([("", "", "", ""), ("", "", "")], 4)
        self.does(table, ("rub", 0))
        self.page_is(table, [("",) * 6])

    def test_room_that_comes_later(self):
        table = self.table([("012345", "56789")], 7, 12)
        self.refused("TooMuch", table, "rub", 0)
        self.does(table, ("rub", 1), ("rub", 0))
        self.page_is(table, [("0123455678",)])

    def test_what_was_taken_back_can_stand_again_behind_a_refusal(self):
        table = self.table([("012345", "56789")], 7)
        self.does(table, ("press", 0, "x"), ("back", 0))
        self.refused("TooMuch", table, "rub", 0)
        self.does(table, ("again", 0))
        self.page_is(table, [("012345", "x56789")])


class TooMuchByBack(Refused):
    def back_is_too_much(self, table, hand, other, wanted):
        """back of the hand is refused until the other hand takes its last deed back."""
        for _ in range(2):
            self.refused("TooMuch", table, "back", hand)
        self.same(table.again(hand), False)
        self.does(table, ("back", other), ("back", hand))
        self.page_is(table, wanted)
        # Now the other hand's deed has no room.
        self.refused("TooMuch", table, "again", other)
        self.does(table, ("again", hand), ("again", other), ("back", other), ("back", hand))
        self.page_is(table, wanted)

    def test_an_eleventh_sign(self):
        table = self.table([("0123456789",)], 3, 10)
        self.does(table, ("rub", 0), ("press", 1, "x"))
        self.back_is_too_much(table, 0, 1, [("0123456789",)])

    def test_a_seventh_cell(self):
        table = self.table([SIX], 4, 11)
        self.does(table, ("rub", 0), ("press", 1, "\t"))
        self.back_is_too_much(table, 0, 1, [SIX])

    def test_a_thirty_first_row(self):
        table = self.table([("a",)] * 30, 2, 59)
        self.does(table, ("rub", 0), ("press", 1, "\n"))
        self.back_is_too_much(table, 0, 1, [("a",)] * 30)

    def test_cells_that_join(self):
        table = self.table([("0123456789",)], 5, 10)
        self.does(table, ("press", 0, "\t"), ("press", 1, "x"))
        self.back_is_too_much(table, 0, 1, [("0123456789",)])

    def test_rows_that_join(self):
        table = self.table([SIX], 5, 11)
        self.does(table, ("press", 0, "\n"), ("press", 1, "\t"))
        self.back_is_too_much(table, 0, 1, [SIX])
        table = self.table([("0123456789",)], 5, 10)
        self.does(table, ("press", 0, "\n"), ("press", 1, "x"))
        self.back_is_too_much(table, 0, 1, [("0123456789",)])

    def test_a_deed_of_the_same_hand_ahead_of_it_is_not_taken_instead(self):
        table = self.table([("0123456789",), ("",)], 11, 10)
        self.does(table, ("press", 0, "a"), ("left", 0), ("left", 0), ("rub", 0), ("press", 1, "x"))
        self.page_is(table, [("012345678x",), ("a",)])
        for _ in range(3):
            self.refused("TooMuch", table, "back", 0)
        self.same(table.told(), [(0, "a", True), (0, "", True), (1, "x", True)])


class TooMuchByAgain(Refused):
    def again_is_too_much(self, table, hand, other, wanted):
        """again of the hand is refused until the other hand takes its last deed back."""
        for _ in range(2):
            self.refused("TooMuch", table, "again", hand)
        self.does(table, ("back", other), ("again", hand))
        self.page_is(table, wanted)
        self.same(table.again(hand), False)
        self.refused("TooMuch", table, "again", other)

    def test_an_eleventh_sign(self):
        table = self.table([("012345678",)], 0, 9)
        self.does(table, ("press", 0, "x"), ("back", 0), ("press", 1, "y"))
        self.again_is_too_much(table, 0, 1, [("x012345678",)])

    def test_a_seventh_cell(self):
        table = self.table([SIX[:5]], 1, 9)
        self.does(table, ("press", 0, "\t"), ("back", 0), ("press", 1, "\t"))
        self.again_is_too_much(table, 0, 1, [("a", "", "b", "c", "d", "e")])

    def test_a_thirty_first_row(self):
        table = self.table([("a",)] * 29, 1, 57)
        self.does(table, ("press", 0, "\n"), ("back", 0), ("press", 1, "\n"))
        self.again_is_too_much(table, 0, 1, [("a",), ("",)] + [("a",)] * 28)

    def test_cells_that_join(self):
        table = self.table([("01234", "56789")], 6, 11)
        self.does(table, ("rub", 0), ("back", 0), ("press", 1, "x"))
        self.again_is_too_much(table, 0, 1, [("0123456789",)])

    def test_rows_that_join(self):
        table = self.table([("a", "b", "c"), ("", "d", "e", "f")], 6, 12)
        self.does(table, ("rub", 0), ("back", 0), ("press", 1, "\t"))
        self.again_is_too_much(table, 0, 1, [SIX])
        table = self.table([("01234",), ("56789",)], 6, 11)
        self.does(table, ("rub", 0), ("back", 0), ("press", 1, "x"))
        self.again_is_too_much(table, 0, 1, [("0123456789",)])

    def test_a_hand_stays_at_what_would_vanish(self):
        table = self.table([("01234", "56789")], 6, 11, 5)
        self.does(table, ("rub", 0), ("back", 0), ("left", 2), ("press", 1, "x"))
        # The third hand went to the second part's begin by the rub; now it stands at the tab again.
        self.same(table.at(2), (0, 0, 5))
        self.refused("TooMuch", table, "again", 0)
        self.does(table, ("press", 2, "!"), ("back", 2))
        self.same(table.at(2), (0, 0, 5))


if __name__ == "__main__":
    unittest.main()
