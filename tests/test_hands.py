"""[16] to [18]: hands in a table, worked by hand."""

import itertools
import unittest

from tabgrow.hands import Table
from tabgrow.laying import laid
from tests.common import GrowCase, lists_in, made_pages, made_styles, spoil

STYLE = (1, 0)


class TableCase(GrowCase):
    def stands(self, table, page, spots, told, style=STYLE):
        """The table has that page, its hands stand there, and these are its deeds; what it tells is the asker's."""
        for _ in range(2):
            self.same([table.at(hand) for hand in range(len(spots))], spots)
            for got, wanted in ((table.page(), page), (table.begins(), laid(page, style)), (table.told(), told)):
                self.same(got, wanted)
                lists = lists_in(got)
                self.assertEqual(len({id(part) for part in lists}), len(lists))
                spoil(got)

    def does(self, table, *deeds):
        """Deeds, each (name, hand, sign if any), that are done or tell True."""
        for name, *handed in deeds:
            wanted = None if name in ("press", "rub") else True
            self.assertIs(getattr(table, name)(*handed), wanted, (name, handed))

    def types(self, table, hand, text):
        self.does(table, *[("press", hand, sign) for sign in text])

    def goes(self, table, hand, many):
        """A hand goes so many places to the right, to the left if that is below 0."""
        self.does(table, *[("right" if many > 0 else "left", hand)] * abs(many))


class Made(TableCase):
    def test_all_hands_at_the_first_sign(self):
        for page, style in zip(made_pages(91, 30), made_styles(92, 30)):
            for hands in range(1, 5):
                self.stands(Table(page, style, hands), page, [(0, 0, 0)] * hands, [], style)

    def test_a_page_without_signs(self):
        table = Table([("",)], STYLE, 2)
        self.stands(table, [("",)], [(0, 0, 0)] * 2, [])
        for hand in (0, 1):
            self.assertIs(table.left(hand), False)
            self.assertIs(table.right(hand), False)

    def test_begins_in_the_tables_style(self):
        page = [("1", "a"), ("-22", "b")]
        self.same(Table(page, (1, 0), 1).begins(), [[2, 4], [0, 4]])
        self.same(Table(page, (2, 6), 1).begins(), [[3, 6], [1, 6]])

    def test_a_page_handed_in_is_not_kept(self):
        page = [("a", "b"), ("c",)]
        table = Table(page, STYLE, 1)
        page[0] = ("x",)
        page.append(("y",))
        self.stands(table, [("a", "b"), ("c",)], [(0, 0, 0)], [])
        table.press(0, "z")
        self.same(page, [("x",), ("c",), ("y",)])

    def test_two_tables_of_one_page(self):
        page = [("a", "b"), ("c",)]
        one, other = Table(page, STYLE, 2), Table(page, (2, 0), 1)
        one.press(1, "x")
        one.right(0)
        self.stands(one, [("xa", "b"), ("c",)], [(0, 0, 2), (0, 0, 1)], [(1, "x", True)])
        self.stands(other, page, [(0, 0, 0)], [], (2, 0))
        self.assertIs(other.back(0), False)
        other.right(0)
        other.rub(0)
        self.stands(other, [("", "b"), ("c",)], [(0, 0, 0)], [(0, "", True)], (2, 0))
        self.stands(one, [("xa", "b"), ("c",)], [(0, 0, 2), (0, 0, 1)], [(1, "x", True)])
        self.same(page, [("a", "b"), ("c",)])

    def test_a_table_of_what_another_one_tells(self):
        one = Table([("a",)], STYLE, 1)
        other = Table(one.page(), STYLE, 1)
        other.press(0, "x")
        self.same(one.page(), [("a",)])


class LeftAndRight(TableCase):
    PAGE = [("ab", "12"), ("", "", "x"), ("wo",)]
    TURN = [(0, 0, 0), (0, 0, 1), (0, 0, 2), (0, 1, 0), (0, 1, 1), (0, 1, 2), (1, 0, 0), (1, 1, 0), (1, 2, 0),
            (1, 2, 1), (2, 0, 0), (2, 0, 1), (2, 0, 2)]

    def test_through_the_page(self):
        table = Table(self.PAGE, STYLE, 2)
        for spot in self.TURN:
            self.stands(table, self.PAGE, [(0, 0, 0), spot], [])
            self.assertIs(table.right(1), spot != self.TURN[-1])
        self.stands(table, self.PAGE, [(0, 0, 0), self.TURN[-1]], [])
        self.assertIs(table.right(1), False)
        for spot in reversed(self.TURN):
            self.stands(table, self.PAGE, [(0, 0, 0), spot], [])
            self.assertIs(table.left(1), spot != (0, 0, 0))
        self.assertIs(table.left(1), False)
        self.stands(table, self.PAGE, [(0, 0, 0), (0, 0, 0)], [])

    def test_over_what_vanished(self):
        table = Table([("abcd",)], STYLE, 2)
        self.goes(table, 0, 3)
        self.does(table, ("rub", 0), ("rub", 0))
        self.stands(table, [("ad",)], [(0, 0, 1), (0, 0, 0)], [(0, "", True)] * 2)
        self.goes(table, 1, 1)
        self.stands(table, [("ad",)], [(0, 0, 1), (0, 0, 1)], [(0, "", True)] * 2)
        self.goes(table, 1, 1)
        self.assertIs(table.right(1), False)
        self.goes(table, 1, -2)
        self.assertIs(table.left(1), False)
        self.stands(table, [("ad",)], [(0, 0, 1), (0, 0, 0)], [(0, "", True)] * 2)

    def test_over_what_vanished_at_begin_and_end(self):
        table = Table([("abc",)], STYLE, 2)
        self.goes(table, 0, 1)
        self.does(table, ("rub", 0))
        self.stands(table, [("bc",)], [(0, 0, 0), (0, 0, 0)], [(0, "", True)])
        self.assertIs(table.left(0), False)
        self.goes(table, 0, 2)
        self.does(table, ("rub", 0))
        self.stands(table, [("b",)], [(0, 0, 1), (0, 0, 0)], [(0, "", True)] * 2)
        self.assertIs(table.right(0), False)
        self.goes(table, 1, 1)
        self.assertIs(table.right(1), False)

    def test_going_is_no_deed(self):
        table = Table([("ab",)], STYLE, 1)
        self.goes(table, 0, 2)
        self.assertIs(table.back(0), False)
        self.types(table, 0, "c")
        self.goes(table, 0, -2)
        self.does(table, ("back", 0))
        self.goes(table, 0, 1)
        self.does(table, ("again", 0))
        self.stands(table, [("abc",)], [(0, 0, 3)], [(0, "c", True)])


class Presses(TableCase):
    def test_signs_tabs_and_line_ends(self):
        table = Table([("",)], STYLE, 1)
        self.types(table, 0, "tea\t12\ncoffee\t7")
        self.stands(table, [("tea", "12"), ("coffee", "7")], [(1, 1, 1)],
                    [(0, sign, True) for sign in "tea\t12\ncoffee\t7"])

    def test_at_the_begin_within_and_at_the_end(self):
        table = Table([("ab", "c")], STYLE, 1)
        self.types(table, 0, "x")
        self.stands(table, [("xab", "c")], [(0, 0, 1)], [(0, "x", True)])
        self.goes(table, 0, 1)
        self.types(table, 0, "y")
        self.stands(table, [("xayb", "c")], [(0, 0, 3)], [(0, "x", True), (0, "y", True)])
        self.goes(table, 0, 1)
        self.types(table, 0, "z")
        self.same(table.page(), [("xaybz", "c")])
        self.same(table.at(0), (0, 0, 5))
        self.goes(table, 0, 2)
        self.types(table, 0, "!")
        self.same(table.page(), [("xaybz", "c!")])
        self.same(table.at(0), (0, 1, 2))

    def test_a_tab_and_a_line_end_within(self):
        table = Table([("abcd", "e")], STYLE, 2)
        self.goes(table, 0, 1)
        self.goes(table, 1, 3)
        self.types(table, 0, "\t")
        self.stands(table, [("a", "bcd", "e")], [(0, 1, 0), (0, 1, 2)], [(0, "\t", True)])
        self.types(table, 1, "\n")
        self.stands(table, [("a", "bc"), ("d", "e")], [(0, 1, 0), (1, 0, 0)], [(0, "\t", True), (1, "\n", True)])

    def test_all_signs(self):
        for number in range(32, 127):
            if number != 37:
                table = Table([("ab",)], STYLE, 1)
                self.types(table, 0, chr(number))
                self.stands(table, [(chr(number) + "ab",)], [(0, 0, 1)], [(0, chr(number), True)])

    def test_several_hands_at_one_place(self):
        table = Table([("ad",)], STYLE, 3)
        for hand in range(3):
            self.goes(table, hand, 1)
        self.types(table, 0, "x")
        self.types(table, 2, "y")
        self.types(table, 1, "\t")
        self.types(table, 0, "z")
        self.stands(table, [("axy", "zd")], [(0, 1, 1)] * 3,
                    [(0, "x", True), (2, "y", True), (1, "\t", True), (0, "z", True)])

    def test_several_hands_at_the_end(self):
        table = Table([("",)], STYLE, 4)
        for hand, sign in ((3, "a"), (1, "\n"), (0, "b"), (2, "\t"), (3, "c")):
            self.types(table, hand, sign)
        self.same(table.page(), [("a",), ("b", "c")])
        self.same([table.at(hand) for hand in range(4)], [(1, 1, 1)] * 4)

    def test_a_hand_ahead_of_where_is_pressed_stays(self):
        table = Table([("ab",)], STYLE, 2)
        self.goes(table, 0, 1)
        self.types(table, 0, "\n")
        self.stands(table, [("a",), ("b",)], [(1, 0, 0), (0, 0, 0)], [(0, "\n", True)])

    def test_behind_what_vanished(self):
        # The b vanished; what is pressed ahead of the c stands behind it when it is there again.
        table = Table([("abc",)], STYLE, 2)
        self.goes(table, 0, 2)
        self.does(table, ("rub", 0))
        self.goes(table, 1, 1)
        self.types(table, 1, "x")
        self.stands(table, [("axc",)], [(0, 0, 2), (0, 0, 2)], [(0, "", True), (1, "x", True)])
        self.does(table, ("back", 0))
        self.stands(table, [("abxc",)], [(0, 0, 3), (0, 0, 3)], [(0, "", False), (1, "x", True)])

    def test_behind_what_vanished_at_the_end(self):
        table = Table([("ab",)], STYLE, 2)
        self.goes(table, 0, 2)
        self.goes(table, 1, 2)
        self.does(table, ("rub", 0), ("rub", 0))
        self.types(table, 1, "x")
        self.does(table, ("back", 0), ("back", 0))
        self.stands(table, [("abx",)], [(0, 0, 3)] * 2, [(0, "", False), (0, "", False), (1, "x", True)])

    def test_behind_a_press_that_was_taken_back(self):
        table = Table([("ab",)], STYLE, 2)
        self.goes(table, 0, 1)
        self.goes(table, 1, 1)
        self.types(table, 0, "x")
        self.does(table, ("back", 0))
        self.types(table, 1, "y")
        self.does(table, ("again", 0))
        self.stands(table, [("axyb",)], [(0, 0, 3)] * 2, [(0, "x", True), (1, "y", True)])


class Vanishes(TableCase):
    def test_a_hand_at_a_sign_that_is_rubbed(self):
        table = Table([("abc",)], STYLE, 2)
        self.goes(table, 0, 2)
        self.goes(table, 1, 1)
        self.does(table, ("rub", 0))
        self.stands(table, [("ac",)], [(0, 0, 1), (0, 0, 1)], [(0, "", True)])
        # The b is there again; both still stand at the c.
        self.does(table, ("back", 0))
        self.stands(table, [("abc",)], [(0, 0, 2), (0, 0, 2)], [(0, "", False)])
        self.types(table, 1, "x")
        self.same(table.page(), [("abxc",)])

    def test_a_hand_at_the_last_sign(self):
        table = Table([("ab",)], STYLE, 2)
        self.goes(table, 0, 2)
        self.goes(table, 1, 1)
        self.does(table, ("rub", 0))
        self.stands(table, [("a",)], [(0, 0, 1), (0, 0, 1)], [(0, "", True)])
        self.assertIs(table.right(1), False)
        self.does(table, ("back", 0))
        self.stands(table, [("ab",)], [(0, 0, 2), (0, 0, 2)], [(0, "", False)])

    def test_a_hand_at_a_tab_and_at_a_line_end(self):
        table = Table([("a", "b"), ("c",)], STYLE, 3)
        self.goes(table, 0, 2)
        self.goes(table, 1, 1)
        self.does(table, ("rub", 0))
        self.stands(table, [("ab",), ("c",)], [(0, 0, 1), (0, 0, 1), (0, 0, 0)], [(0, "", True)])
        self.goes(table, 0, 2)
        self.goes(table, 2, 2)
        self.does(table, ("rub", 0))
        self.stands(table, [("abc",)], [(0, 0, 2), (0, 0, 1), (0, 0, 2)], [(0, "", True)] * 2)
        self.does(table, ("back", 0), ("back", 0))
        self.stands(table, [("a", "b"), ("c",)], [(1, 0, 0), (0, 1, 0), (1, 0, 0)], [(0, "", False)] * 2)

    def test_a_hand_at_a_press_that_is_taken_back(self):
        table = Table([("ab",)], STYLE, 2)
        self.types(table, 0, "xy")
        self.goes(table, 0, -2)
        self.goes(table, 1, -1)
        self.stands(table, [("xyab",)], [(0, 0, 0), (0, 0, 1)], [(0, "x", True), (0, "y", True)])
        self.does(table, ("back", 0))
        self.stands(table, [("xab",)], [(0, 0, 0), (0, 0, 1)], [(0, "x", True), (0, "y", False)])
        self.does(table, ("back", 0))
        self.stands(table, [("ab",)], [(0, 0, 0), (0, 0, 0)], [(0, "x", False), (0, "y", False)])
        self.does(table, ("again", 0), ("again", 0))
        self.stands(table, [("xyab",)], [(0, 0, 2), (0, 0, 2)], [(0, "x", True), (0, "y", True)])

    def test_a_hand_at_a_rub_that_stands_again(self):
        table = Table([("ab",)], STYLE, 2)
        self.goes(table, 0, 1)
        self.does(table, ("rub", 0), ("back", 0))
        self.goes(table, 1, -1)
        self.stands(table, [("ab",)], [(0, 0, 1), (0, 0, 0)], [(0, "", False)])
        self.does(table, ("again", 0))
        self.stands(table, [("b",)], [(0, 0, 0), (0, 0, 0)], [(0, "", True)])

    def test_several_signs_one_behind_the_other(self):
        # The hand is moved on by each sign that vanishes, and stays behind when they are there again.
        table = Table([("abcd",)], STYLE, 2)
        self.goes(table, 1, 1)
        self.goes(table, 0, 3)
        self.does(table, ("rub", 0), ("rub", 0))
        self.stands(table, [("ad",)], [(0, 0, 1), (0, 0, 1)], [(0, "", True)] * 2)
        self.does(table, ("back", 0))
        self.stands(table, [("abd",)], [(0, 0, 2), (0, 0, 2)], [(0, "", True), (0, "", False)])
        self.goes(table, 1, -1)
        self.does(table, ("back", 0))
        self.stands(table, [("abcd",)], [(0, 0, 3), (0, 0, 1)], [(0, "", False)] * 2)


class Rubs(TableCase):
    def test_signs_tabs_and_line_ends(self):
        table = Table([("ab", "c"), ("d",)], STYLE, 1)
        self.goes(table, 0, 6)
        wanted = ([("ab", "c"), ("",)], [("ab", "c")], [("ab", "")], [("ab",)], [("a",)], [("",)])
        for many, page in enumerate(wanted, 1):
            self.does(table, ("rub", 0))
            self.stands(table, page, [(len(page) - 1, len(page[-1]) - 1, len(page[-1][-1]))], [(0, "", True)] * many)
        self.refuses("BadCell", None, table.rub, 0)

    def test_within(self):
        table = Table([("abc", "d")], STYLE, 1)
        self.goes(table, 0, 2)
        self.does(table, ("rub", 0))
        self.stands(table, [("ac", "d")], [(0, 0, 1)], [(0, "", True)])

    def test_what_vanished_is_passed_over(self):
        table = Table([("abc",)], STYLE, 2)
        self.goes(table, 0, 2)
        self.does(table, ("rub", 0))
        self.goes(table, 1, 1)
        self.does(table, ("rub", 1))
        self.stands(table, [("c",)], [(0, 0, 0)] * 2, [(0, "", True), (1, "", True)])
        self.does(table, ("back", 1))
        self.same(table.page(), [("ac",)])

    def test_what_was_pressed(self):
        table = Table([("ab",)], STYLE, 2)
        self.types(table, 0, "x")
        self.does(table, ("rub", 1))
        self.stands(table, [("ab",)], [(0, 0, 0)] * 2, [(0, "x", True), (1, "", True)])
        # The press is taken back and stands again, but the rub stands.
        self.does(table, ("back", 0))
        self.stands(table, [("ab",)], [(0, 0, 0)] * 2, [(0, "x", False), (1, "", True)])
        self.does(table, ("again", 0))
        self.stands(table, [("ab",)], [(0, 0, 0)] * 2, [(0, "x", True), (1, "", True)])
        self.does(table, ("back", 0), ("back", 1))
        self.stands(table, [("ab",)], [(0, 0, 0)] * 2, [(0, "x", False), (1, "", False)])
        self.does(table, ("again", 0))
        self.stands(table, [("xab",)], [(0, 0, 1)] * 2, [(0, "x", True), (1, "", False)])

    def rubbed_by_three(self):
        """A table whose second sign three hands rubbed: each took its rub back, so that the next one could."""
        table = Table([("abc",)], STYLE, 4)
        for hand in range(3):
            self.goes(table, hand, 2)
            self.does(table, ("rub", hand), ("back", hand))
        for hand in range(3):
            self.does(table, ("again", hand))
        self.stands(table, [("ac",)], [(0, 0, 1)] * 3 + [(0, 0, 0)], [(hand, "", True) for hand in range(3)])
        return table

    def test_one_sign_by_several_hands_in_every_order(self):
        for order in itertools.permutations(range(3)):
            table = self.rubbed_by_three()
            stands = [True] * 3
            for many, hand in enumerate(order, 1):
                self.does(table, ("back", hand))
                stands[hand] = False
                page = [("abc",)] if many == 3 else [("ac",)]
                spot = (0, 0, 2) if many == 3 else (0, 0, 1)
                self.stands(table, page, [spot] * 3 + [(0, 0, 0)], [(each, "", stands[each]) for each in range(3)])
            self.does(table, ("again", order[0]))
            self.same(table.page(), [("ac",)])


class BackAndAgain(TableCase):
    def test_nothing_done(self):
        table = Table([("ab",)], STYLE, 2)
        self.types(table, 0, "x")
        self.assertIs(table.back(1), False)
        self.assertIs(table.again(1), False)
        self.assertIs(table.again(0), False)
        self.stands(table, [("xab",)], [(0, 0, 1)] * 2, [(0, "x", True)])

    def test_one_at_a_time(self):
        table = Table([("",)], STYLE, 1)
        self.types(table, 0, "ab\tc\nd")
        self.does(table, ("rub", 0))
        pages = [[("",)], [("a",)], [("ab",)], [("ab", "")], [("ab", "c")], [("ab", "c"), ("",)],
                 [("ab", "c"), ("d",)], [("ab", "c"), ("",)]]
        signs = ["a", "b", "\t", "c", "\n", "d", ""]
        for turn in range(2):
            for many in range(6, -1, -1):
                self.does(table, ("back", 0))
                self.same(table.page(), pages[many])
                self.same(table.told(), [(0, sign, at < many) for at, sign in enumerate(signs)])
            self.assertIs(table.back(0), False)
            self.same(table.page(), pages[0])
            for many in range(1, 8):
                self.does(table, ("again", 0))
                self.same(table.page(), pages[many])
                self.same(table.told(), [(0, sign, at < many) for at, sign in enumerate(signs)])
            self.assertIs(table.again(0), False)
            self.same(table.page(), pages[-1])

    def test_to_and_fro(self):
        table = Table([("",)], STYLE, 1)
        self.types(table, 0, "abc")
        self.does(table, ("back", 0), ("back", 0), ("again", 0), ("back", 0), ("again", 0), ("again", 0))
        self.stands(table, [("abc",)], [(0, 0, 3)], [(0, sign, True) for sign in "abc"])
        self.assertIs(table.again(0), False)

    def test_no_more_behind_a_press_of_the_same_hand(self):
        table = Table([("",)], STYLE, 1)
        self.types(table, 0, "abc")
        self.does(table, ("back", 0), ("back", 0))
        self.types(table, 0, "x")
        self.assertIs(table.again(0), False)
        told = [(0, "a", True), (0, "b", False), (0, "c", False), (0, "x", True)]
        self.stands(table, [("ax",)], [(0, 0, 2)], told)
        self.does(table, ("back", 0), ("again", 0))
        self.assertIs(table.again(0), False)
        self.does(table, ("back", 0), ("back", 0))
        self.assertIs(table.back(0), False)
        self.does(table, ("again", 0), ("again", 0))
        self.assertIs(table.again(0), False)
        self.stands(table, [("ax",)], [(0, 0, 2)], told)

    def test_no_more_behind_a_rub_of_the_same_hand(self):
        table = Table([("",)], STYLE, 1)
        self.types(table, 0, "abc")
        self.does(table, ("back", 0), ("rub", 0))
        self.assertIs(table.again(0), False)
        self.stands(table, [("a",)], [(0, 0, 1)],
                    [(0, "a", True), (0, "b", True), (0, "c", False), (0, "", True)])

    def test_still_behind_what_another_hand_did(self):
        table = Table([("",)], STYLE, 3)
        self.types(table, 0, "ab")
        self.does(table, ("back", 0))
        self.types(table, 1, "x")
        self.does(table, ("rub", 2), ("back", 1), ("back", 2), ("again", 1))
        self.does(table, ("again", 0))
        self.stands(table, [("abx",)], [(0, 0, 3)] * 3,
                    [(0, "a", True), (0, "b", True), (1, "x", True), (2, "", False)])

    def test_each_hand_takes_its_own_back(self):
        table = Table([("",)], STYLE, 3)
        for hand, sign in ((0, "a"), (1, "b"), (0, "c"), (2, "d"), (1, "e")):
            self.types(table, hand, sign)
        self.same(table.page(), [("abcde",)])
        self.does(table, ("back", 0))
        self.same(table.page(), [("abde",)])
        self.does(table, ("back", 1))
        self.same(table.page(), [("abd",)])
        self.does(table, ("back", 1))
        self.same(table.page(), [("ad",)])
        self.assertIs(table.back(1), False)
        self.does(table, ("back", 2), ("again", 1))
        self.same(table.page(), [("ab",)])
        self.same(table.told(), [(0, "a", True), (1, "b", True), (0, "c", False), (2, "d", False), (1, "e", False)])

    def test_what_is_there_hangs_on_which_deeds_stand_alone(self):
        # All orders in which three hands can take all back, and let all stand again.
        pages = {}
        for order in sorted(set(itertools.permutations((0, 0, 1, 1, 2)))):
            table = Table([("abcd",)], STYLE, 3)
            self.goes(table, 0, 2)
            self.goes(table, 1, 3)
            self.goes(table, 2, 2)
            self.does(table, ("press", 0, "\t"), ("rub", 1), ("press", 1, "x"), ("rub", 2), ("rub", 0))
            for name in ("back", "again"):
                for hand in order:
                    self.does(table, (name, hand))
                    stands = tuple(stand for _, _, stand in table.told())
                    self.same(pages.setdefault(stands, table.page()), table.page())
            self.same(table.page(), pages[(True,) * 5])
        self.same(pages[(False,) * 5], [("abcd",)])
        self.assertEqual(len(pages), 3 * 3 * 2)

    def test_a_press_and_its_rub_by_one_hand(self):
        table = Table([("a",)], STYLE, 1)
        self.types(table, 0, "x")
        self.does(table, ("rub", 0))
        self.stands(table, [("a",)], [(0, 0, 0)], [(0, "x", True), (0, "", True)])
        self.does(table, ("back", 0))
        self.stands(table, [("xa",)], [(0, 0, 1)], [(0, "x", True), (0, "", False)])
        self.does(table, ("back", 0))
        self.stands(table, [("a",)], [(0, 0, 0)], [(0, "x", False), (0, "", False)])


if __name__ == "__main__":
    unittest.main()
