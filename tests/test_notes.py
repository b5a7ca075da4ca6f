"""[19]: the text of a page, and the page of a text."""

import unittest

from tabgrow.notes import read, written
from tests.common import NO_LISTS, GrowCase, made_pages

# Signs at which Python can part a text into lines, though the document doesn't.
OTHER_ENDS = ("\r", "\r\n", "\x0b", "\x0c", "\x1c", "\x1d", "\x1e", "\x85", "\u2028", "\u2029")
NO_SIGNS = ("%", "\x00", "\x1f", "\x7f", "\x80", "\u00e9", "\u00b2", "\u0663", "\u3000", "\U0001f600", "\ud800")
FULL_ROW = ("0123456789",) * 6


class NoteCase(GrowCase):
    def notes(self, page, text):
        """This is the page's text, and the text's page."""
        self.tells(text, written, page)
        self.tells(page, read, text)


class ToAndFro(NoteCase):
    def test_ordinary(self):
        self.notes([("tea", "12"), ("coffee", "7")], "tea\t12\ncoffee\t7")
        self.notes([("a",)], "a")
        self.notes([("a",), ("b",)], "a\nb")
        self.notes([("a", "b")], "a\tb")
        self.notes([("a", "b"), ("c",), ("d", "e", "f")], "a\tb\nc\nd\te\tf")

    def test_empty_cells(self):
        self.notes([("",)], "")
        self.notes([("", "")], "\t")
        self.notes([("", "", "")], "\t\t")
        self.notes([("",), ("",)], "\n")
        self.notes([("",), ("",), ("",)], "\n\n")
        self.notes([("", ""), ("",), ("", "", "")], "\t\n\n\t\t")
        self.notes([("a", "")], "a\t")
        self.notes([("", "a")], "\ta")
        self.notes([("a",), ("",)], "a\n")
        self.notes([("",), ("a",)], "\na")
        self.notes([("", "a", "", "b", "", "")], "\ta\t\tb\t\t")

    def test_blanks_stay(self):
        self.notes([(" ",)], " ")
        self.notes([(" a ", "  "), ("b  ",)], " a \t  \nb  ")

    def test_all_signs(self):
        signs = [chr(number) for number in range(32, 127) if number != 37]
        for sign in signs:
            self.notes([(sign, "a" + sign)], sign + "\ta" + sign)

    def test_the_greatest_page(self):
        self.notes([FULL_ROW] * 30, "\n".join(["\t".join(FULL_ROW)] * 30))

    def test_thirty_rows(self):
        self.notes([("",)] * 30, "\n" * 29)
        self.notes([(str(number), "x") for number in range(30)], "\n".join(f"{number}\tx" for number in range(30)))

    def test_made_pages(self):
        for page in made_pages(71, 150) + made_pages(72, 10, 30):
            text = ""
            for number, row in enumerate(page):
                text += "\n" * (number > 0)
                for cell, signs in enumerate(row):
                    text += "\t" * (cell > 0) + signs
            self.notes(page, text)

    def test_all_short_texts(self):
        for number in range(3 ** 7):
            text = "".join("a\t\n"[number // 3 ** at % 3] for at in range(7))
            rows = text.split("\n")
            wide = [row for row, line in enumerate(rows) if line.count("\t") > 5]
            if wide:
                self.refuses("BadText", wide[0], read, text)
            else:
                self.same(written(read(text)), text)
                self.same([len(row) for row in read(text)], [line.count("\t") + 1 for line in rows])


class ReadRefuses(GrowCase):
    def bad(self, row, text):
        self.refuses("BadText", row, read, text)

    def test_what_is_no_text(self):
        for text in (None, True, False, 0, 1, -1, 30, (), ("a",), ("a", "b"), [], ["a"], ["a", "b"], [("a",)]):
            self.bad(0, text)

    def test_signs_that_are_none(self):
        for sign in NO_SIGNS + OTHER_ENDS:
            self.bad(0, sign)
            self.bad(0, "a" + sign + "b")
            self.bad(1, "a\n" + sign)
            self.bad(2, "a\nb\nc\td" + sign + "\ne")
        for number in list(range(32)) + [37] + list(range(127, 300)):
            if number not in (9, 10):
                self.bad(1, "a\n" + chr(number) + "\tb")

    def test_a_cell_of_eleven_signs(self):
        self.bad(0, "a" * 11)
        self.bad(0, " " * 11)
        self.bad(1, "a" * 10 + "\n" + "a" * 11)
        self.bad(2, "a\n\nb\t01234567890\tc\nd")
        self.bad(0, "a" * 10 + "\t" + "a" * 11)

    def test_seven_cells(self):
        self.bad(0, "\t" * 6)
        self.bad(0, "a\tb\tc\td\te\tf\tg")
        self.bad(1, "\t" * 5 + "\n" + "\t" * 6)
        self.bad(3, "a\nb\nc\na\tb\tc\td\te\tf\t\ng")

    def test_the_first_of_several(self):
        self.bad(1, "a\n%\n" + "a" * 11 + "\n" + "\t" * 6)
        self.bad(1, "a\n" + "a" * 11 + "\n%")
        self.bad(1, "a\n" + "\t" * 6 + "\n%\n%")
        self.bad(0, "%\n\n%")

    def test_the_thirty_first_row(self):
        self.bad(30, "\n" * 30)
        self.bad(30, "\n" * 40)
        self.bad(30, "\n".join(["a\tb"] * 31))
        self.bad(30, "\n" * 30 + "%")
        self.bad(30, "\n" * 31 + "%")
        self.bad(29, "\n" * 29 + "%")
        self.bad(29, "\n" * 29 + "%\n")
        self.bad(4, "\n" * 4 + "%" + "\n" * 40)

    def test_after_a_refusal_the_same_is_told(self):
        self.bad(0, "%")
        self.tells([("a",)], read, "a")


class WrittenRefuses(GrowCase):
    def test_what_is_no_page(self):
        for page in NO_LISTS + ([],):
            self.refuses("BadPage", 0, written, page)
        self.refuses("BadPage", 1, written, [("a",), ("b%",), None])
        self.refuses("BadPage", 1, written, [("a",), ("b\tc",)])
        self.refuses("BadPage", 0, written, [("b\nc",)])
        self.refuses("BadPage", 30, written, [("a",)] * 31)


class Kept(GrowCase):
    def test_a_page_that_is_changed_later(self):
        page = [("a",), ("b", "c")]
        text = written(page)
        page[0] = ("x",)
        page.pop()
        self.same(text, "a\nb\tc")
        self.tells("x", written, page)


if __name__ == "__main__":
    unittest.main()
