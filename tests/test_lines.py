"""[7]: lines, read back, guessed and judged."""

import re
import unittest

from tabgrow.laying import guessed, judged, laid, read_back, shown, stops
from tests.common import NO_LINES, NO_LISTS, NO_SIGNS, GrowCase, made_pages, made_styles

NO_PLACES = (None, True, False, -1, 201, 1000, "1", "", (), (0,), [], [0])
TRIMMED = ("", "7", "42", "-5", "-", "x", "word", "a b", "two  cells", "0123456789", "~!")


class ReadBack(GrowCase):
    def test_ordinary(self):
        self.tells([("tea", "12", "green"), ("milk", "7", "")], read_back,
                   ["tea   12  green", "milk   7"], [[0, 6, 10], [0, 6, 10]])

    def test_each_line_has_left_ends_of_its_own(self):
        self.tells([("ab", "cd"), ("a", "b", "cd"), ("abcd",)], read_back,
                   ["abcd", "abcd", "abcd"], [[0, 2], [0, 1, 2], [0]])

    def test_blanks_at_begin_and_end_are_left_out(self):
        self.tells([("a b", "c  d", "")], read_back, ["  a b   c  d     "], [[0, 8, 13]])
        self.tells([("", "", "")], read_back, ["          "], [[0, 3, 5]])
        self.tells([("a",)], read_back, ["   a   "], [[0]])

    def test_a_cell_is_cut_at_the_next_left_end(self):
        self.tells([("ab", "cdef", "gh")], read_back, ["abcdefgh"], [[0, 2, 6]])
        self.tells([("a", "b", "c")], read_back, ["abc"], [[0, 1, 2]])

    def test_left_ends_that_are_alike(self):
        self.tells([("", "abc")], read_back, ["abc"], [[0, 0]])
        self.tells([("a", "", "", "bc")], read_back, ["abc"], [[0, 1, 1, 1]])
        self.tells([("abc", "", "")], read_back, ["abc"], [[0, 200, 200]])
        self.tells([("", "", "")], read_back, [""], [[0, 0, 0]])

    def test_left_ends_at_the_end_and_beyond(self):
        self.tells([("abc", "")], read_back, ["abc"], [[0, 3]])
        self.tells([("ab", "c", "", "")], read_back, ["abc"], [[0, 2, 3, 4]])
        self.tells([("abc", "", "")], read_back, ["abc"], [[0, 10, 200]])
        self.tells([("", "")], read_back, [""], [[0, 1]])

    def test_a_line_of_two_hundred_signs(self):
        line = "a" * 100 + "b" * 99 + "c"
        self.tells([("a" * 100, "b" * 99, "c", "")], read_back, [line], [[0, 100, 199, 200]])
        self.tells([(line,)], read_back, [line], [[0]])

    def test_many_left_ends(self):
        line = "0123456789" * 20
        self.tells([tuple(line) + ("",)], read_back, [line], [list(range(201))])

    def test_no_line_and_thirty(self):
        self.tells([], read_back, [], [])
        self.tells([("a", "b")] * 30, read_back, ["a b"] * 30, [[0, 2] for _ in range(30)])

    def test_one_list_for_two_lines(self):
        ends = [0, 2]
        self.same(read_back(["a b", "c d"], [ends, ends]), [("a", "b"), ("c", "d")])

    def test_what_is_shown_is_read_back(self):
        styles = made_styles(21, 150)
        for page, style in zip(made_pages(20, 150, 7, TRIMMED), styles):
            self.tells(page, read_back, shown(page, style), stops(page, style))

    def test_what_is_shown_of_thirty_rows_is_read_back(self):
        page = [("", "-12", "a b", "0123456789"[:row % 11], "", "end")[:row % 6 + 1] for row in range(30)]
        for style in ((0, 0), (4, 12), (1, 3)):
            self.tells(page, read_back, shown(page, style), stops(page, style))


class ReadBackRefuses(GrowCase):
    def bad(self, line, lines, told):
        self.refuses("BadLines", line, read_back, lines, told)

    def test_left_ends_that_are_no_list_of_lists(self):
        for told in NO_LISTS:
            self.bad(0, ["a", "b"], told)
            self.bad(0, [], told)
        self.bad(0, ["a"], ([0],))

    def test_what_is_no_list_of_left_ends(self):
        for ends in (None, True, False, 0, 3, "", "0", "01", (), (0,), (0, 1), []):
            self.bad(0, ["a"], [ends])
            self.bad(1, ["a", "b", "c"], [[0], ends, [0]])
            self.bad(2, ["a", "b", "c"], [[0], [0, 1], ends])

    def test_what_is_no_left_end(self):
        for place in NO_PLACES:
            self.bad(0, ["a"], [[0, place]])
            self.bad(1, ["a", "b"], [[0], [0, 1, place]])
            self.bad(1, ["a", "b"], [[0], [place]])
        self.bad(0, ["a"], [[False, 1]])
        self.bad(0, ["a"], [[0, True]])
        self.bad(0, ["a"], [[0, False]])

    def test_the_first_is_zero(self):
        for ends in ([1], [1, 2], [200], [2, 3, 4]):
            self.bad(0, ["abcd"], [ends])
            self.bad(1, ["abcd", "abcd"], [[0, 1], ends])

    def test_a_list_that_does_not_rise(self):
        for ends in ([0, 2, 1], [0, 1, 0], [0, 5, 5, 4], [0, 200, 199], [0, 0, 3, 2, 7]):
            self.bad(0, ["abcd"], [ends])
            self.bad(1, ["abcd", "abcd"], [[0, 1], ends])

    def test_left_ends_that_lack(self):
        self.bad(0, ["a"], [])
        self.bad(1, ["a", "b"], [[0]])
        self.bad(2, ["a", "b", "c"], [[0], [0]])
        self.bad(29, ["a"] * 30, [[0] for _ in range(29)])

    def test_one_list_too_many(self):
        self.bad(0, [], [[0]])
        self.bad(1, ["a"], [[0], [0]])
        self.bad(1, ["a"], [[0], None])
        self.bad(2, ["a", "b"], [[0], [0], [0], [0]])
        self.bad(30, ["a"] * 30, [[0] for _ in range(31)])

    def test_the_first_line_whose_left_ends_cannot_be(self):
        self.bad(1, ["a", "b", "c"], [[0], [1], [2]])
        self.bad(1, ["a", "b", "c"], [[0], [1]])
        self.bad(1, ["a", "b"], [[0], [0, -1], [0]])
        self.bad(0, ["a"], [None, [0]])

    def test_lines_are_refused_ahead_of_left_ends(self):
        self.bad(2, ["a", "b", "%"], [None, None, None])
        self.bad(1, ["a", None], None)
        self.bad(1, ["a", "\t"], [[7]])
        self.bad(30, ["a"] * 31, [])
        self.bad(30, ["a"] * 31, [None] * 31)


class BadLists(GrowCase):
    """What read_back and guessed refuse of lines."""

    def bad(self, line, lines):
        self.refuses("BadLines", line, guessed, lines)
        self.refuses("BadLines", line, read_back, lines, [[0]])
        if isinstance(lines, (list, tuple, str)):
            self.refuses("BadLines", line, read_back, lines, [[0] for _ in lines])

    def test_what_is_no_list(self):
        for lines in NO_LISTS:
            self.bad(0, lines)
        self.bad(0, ("a", "b"))
        self.bad(0, "abc")

    def test_what_is_no_line(self):
        for line in NO_LINES:
            self.bad(0, [line])
            self.bad(1, ["a", line])
            self.bad(2, ["", "a", line, "b", None])

    def test_signs_that_are_none(self):
        for sign in NO_SIGNS:
            self.bad(0, [sign])
            self.bad(1, ["a", "a b" + sign])
            self.bad(0, [sign + "a", "b"])
            self.bad(1, ["a", "a" * 199 + sign])

    def test_each_sign(self):
        for number in range(300):
            if 32 <= number <= 126 and number != 37:
                self.tells([("(" + chr(number) + ")",)], guessed, ["(" + chr(number) + ")"])
            else:
                self.bad(1, ["a", "(" + chr(number) + ")"])

    def test_the_first_is_told(self):
        self.bad(1, ["a", "%", None, "\t"])
        self.bad(0, [7, "%"])

    def test_the_thirty_first_line(self):
        self.bad(30, [""] * 31)
        self.bad(30, ["a"] * 50)
        self.bad(30, ["a"] * 30 + [None])
        self.bad(29, ["a"] * 29 + ["%", "a"])
        self.bad(4, ["a"] * 4 + [None] + ["a"] * 40)


class Guessed(GrowCase):
    def test_ordinary(self):
        self.tells([("tea", "12", "green"), ("milk", "7")], guessed, ["tea   12  green", "milk     7"])

    def test_one_blank_does_not_part(self):
        self.tells([("a b c",)], guessed, ["a b c"])
        self.tells([("a b", "c d")], guessed, ["a b  c d"])

    def test_two_blanks_and_more_part(self):
        for many in range(2, 12):
            self.tells([("a", "b")], guessed, ["a" + " " * many + "b"])
            self.tells([("a", "b", "c d")], guessed, ["a" + " " * many + "b  c d"])

    def test_blanks_at_begin_and_end(self):
        for many in range(6):
            blanks = " " * many
            self.tells([("a",)], guessed, [blanks + "a"])
            self.tells([("a",)], guessed, ["a" + blanks])
            self.tells([("a b", "c")], guessed, [blanks + "a b   c" + blanks])

    def test_a_line_of_blanks(self):
        for many in (0, 1, 2, 3, 4, 5, 199, 200):
            self.tells([("",)], guessed, [" " * many])

    def test_long_lines(self):
        self.tells([("a" * 200,)], guessed, ["a" * 200])
        self.tells([("a" * 99, "b" * 99)], guessed, ["a" * 99 + "  " + "b" * 99])
        self.tells([("a",) * 67], guessed, ["  ".join(["a"] * 67)[:200]])
        self.tells([("a", "b")], guessed, ["a" + " " * 198 + "b"])

    def test_no_line_and_thirty(self):
        self.tells([], guessed, [])
        self.tells([("",)] * 30, guessed, [""] * 30)
        self.tells([(str(line), "x y") for line in range(30)], guessed, [f"{line}   x y" for line in range(30)])

    def test_all_short_lines(self):
        for number in range(3 ** 7):
            line = "".join(" .a"[number // 3 ** at % 3] for at in range(7))
            self.same(guessed([line]), [tuple(re.split("  +", line.strip(" ")))])


class Judged(GrowCase):
    PAGE = [("1", "a", "x"), ("22", "b"), ("word",), ("3", "c")]
    LAID = [[1, 3, 5], [0, 3], [0], [0, 2]]

    def test_all_begin_there(self):
        self.tells(self.LAID, laid, self.PAGE, (1, 0))
        self.tells(None, judged, self.PAGE, (1, 0), self.LAID)
        self.tells(None, judged, [("",)], (0, 0), [[0]])
        self.tells(None, judged, [("a",)] * 30, (4, 12), [[0] for _ in range(30)])

    def test_each_cell_that_begins_elsewhere(self):
        for row, begins in enumerate(self.LAID):
            for cell, begin in enumerate(begins):
                for other in (0, 1, 2, 3, 4, 5, 6, 199, 200):
                    if other != begin:
                        told = [list(each) for each in self.LAID]
                        told[row][cell] = other
                        self.tells((row, cell), judged, self.PAGE, (1, 0), told)

    def test_the_first_of_several(self):
        self.tells((0, 1), judged, self.PAGE, (1, 0), [[1, 4, 9], [9, 9], [9], [9, 9]])
        self.tells((1, 0), judged, self.PAGE, (1, 0), [[1, 3, 5], [1, 4], [0], [0, 3]])
        self.tells((1, 1), judged, self.PAGE, (1, 0), [[1, 3, 5], [0, 4], [1], [0, 2]])
        self.tells((0, 2), judged, self.PAGE, (1, 0), [[1, 3, 6], [1, 3], [0], [0, 2]])

    def test_begins_and_not_left_ends(self):
        self.tells((0, 0), judged, self.PAGE, (1, 0), stops(self.PAGE, (1, 0)))

    def test_the_style_counts(self):
        self.tells((0, 1), judged, self.PAGE, (2, 0), self.LAID)
        self.tells((0, 0), judged, self.PAGE, (1, 4), self.LAID)

    def test_numbers_need_not_rise(self):
        self.tells((0, 0), judged, [("a", "b")], (1, 0), [[200, 0]])
        self.tells((0, 1), judged, [("a", "b")], (1, 0), [[0, 0]])

    def test_made_pages(self):
        for page, style in zip(made_pages(30, 100), made_styles(31, 100)):
            begins = laid(page, style)
            self.tells(None, judged, page, style, begins)
            row = len(page) // 2
            begins[row][-1] += 1
            self.tells((row, len(page[row]) - 1), judged, page, style, begins)


class JudgedRefuses(GrowCase):
    def bad(self, row, page, told):
        self.refuses("BadLines", row, judged, page, (1, 0), told)

    def test_what_is_no_list_of_lists(self):
        for told in NO_LISTS:
            self.bad(0, [("a",), ("b",)], told)
        self.bad(0, [("a",)], ([0],))

    def test_what_is_no_list_of_begins(self):
        for begins in (None, True, False, 0, 3, "", "0", "01", (), (0,), (0, 2)):
            self.bad(0, [("a", "b")], [begins])
            self.bad(1, [("a",), ("b", "c"), ("d",)], [[0], begins, [0]])
            self.bad(1, [("a",), ("b",)], [[0], begins])

    def test_one_for_each_cell(self):
        for begins in ([], [0], [0, 2, 4], [0, 2, 4, 6]):
            self.bad(0, [("a", "b")], [begins])
            self.bad(1, [("a", "b"), ("a", "b"), ("a", "b")], [[0, 2], begins, [0, 2]])
        self.bad(1, [("a", "b"), ("c",)], [[0, 2], [0, 2]])
        self.bad(0, [("a",), ("b", "c")], [[0, 2], [0]])

    def test_what_is_no_number(self):
        for place in NO_PLACES:
            self.bad(0, [("a", "b")], [[0, place]])
            self.bad(0, [("a", "b")], [[place, 2]])
            self.bad(2, [("a",), ("b",), ("c",)], [[0], [0], [place]])

    def test_numbers_up_to_two_hundred(self):
        self.tells((0, 0), judged, [("a",)], (1, 0), [[200]])
        self.bad(0, [("a",)], [[201]])

    def test_lists_that_lack(self):
        self.bad(0, [("a",)], [])
        self.bad(1, [("a",), ("b",)], [[0]])
        self.bad(2, [("a",), ("b",), ("c",), ("d",)], [[0], [0]])
        self.bad(29, [("a",)] * 30, [[0] for _ in range(29)])

    def test_one_list_too_many(self):
        self.bad(1, [("a",)], [[0], [0]])
        self.bad(1, [("a",)], [[0], None])
        self.bad(2, [("a",), ("b",)], [[0], [0], [0], [0]])
        self.bad(30, [("a",)] * 30, [[0] for _ in range(31)])

    def test_the_first_that_cannot_be(self):
        self.bad(1, [("a",), ("b",), ("c",)], [[0], [0, 0], None])
        self.bad(1, [("a",), ("b",), ("c",)], [[0], None])
        self.bad(0, [("a",)], [None, [0]])

    def test_refused_though_a_cell_ahead_begins_elsewhere(self):
        self.bad(1, [("a",), ("b",)], [[7], [True]])
        self.bad(1, [("a",), ("b",)], [[7]])
        self.bad(2, [("a",), ("b",)], [[7], [0], [0]])

    def test_page_then_style_then_begins(self):
        self.refuses("BadPage", 1, judged, [("a",), None], None, None)
        self.refuses("BadPage", 30, judged, [("a",)] * 31, (1, 0), [[0]] * 31)
        self.refuses("BadStyle", None, judged, [("a",)], (5, 0), None)
        self.refuses("BadStyle", None, judged, [("a",)], [1, 0], [[0], [0]])


class Kept(GrowCase):
    def test_lists_that_are_changed_later(self):
        lines = ["ab"]
        ends = [[0, 1]]
        first = read_back(lines, ends)
        second = guessed(lines)
        lines[0] = "cd  e"
        ends[0].append(4)
        self.same((first, second), ([("a", "b")], [("ab",)]))
        self.tells([("c", "d", "e")], read_back, lines, ends)
        self.tells([("cd", "e")], guessed, lines)

    def test_after_a_refusal_the_same_is_told(self):
        self.refuses("BadLines", 0, read_back, ["a"], [])
        self.refuses("BadLines", 0, guessed, [None])
        self.refuses("BadLines", 0, judged, [("a", "b")], (1, 0), [])
        self.tells([("a",)], read_back, ["a"], [[0]])
        self.tells([("a",)], guessed, ["a"])
        self.tells(None, judged, [("a", "b")], (1, 0), [[0, 2]])


if __name__ == "__main__":
    unittest.main()
