"""[14]: the strokes from lines to lines, and lines with strokes painted on them."""

import random
import re
import unittest

from tabgrow.laying import shown
from tabgrow.paints import painted, strokes
from tests.common import NO_LINES, NO_LISTS, NO_SIGNS, GrowCase, made_pages, made_styles

LONG = "0123456789" * 20


def spans(old, new):
    """(begin, end) of the strokes between two texts, by another way: a pattern over which signs differ."""
    many = max(len(old), len(new))
    pairs = zip(old.ljust(many), new.ljust(many))
    unlike = "".join("." if sign == other else "x" for sign, other in pairs)
    return [found.span() for found in re.finditer(r"x(\.{0,2}x)*", unlike)]


def wanted_strokes(before, later):
    many = max(len(before), len(later))
    before, later = before + [""] * (many - len(before)), later + [""] * (many - len(later))
    return [(number, begin, later[number].ljust(200)[begin:end])
            for number in range(many) for begin, end in spans(before[number], later[number])]


def canvas(lines, drawn):
    """painted by another way: each place of each line for itself."""
    many = max([len(lines)] + [stroke[0] + 1 for stroke in drawn])
    signs = {(number, place): sign for number, line in enumerate(lines) for place, sign in enumerate(line)}
    for number, begin, text in drawn:
        signs.update({(number, begin + at): sign for at, sign in enumerate(text)})
    return ["".join(signs.get((number, place), " ") for place in range(200)).rstrip() for number in range(many)]


def trimmed(lines):
    """Lines without blanks at their ends, and without empty ones behind."""
    found = [line.rstrip(" ") for line in lines]
    while found and found[-1] == "":
        found.pop()
    return found


class PaintCase(GrowCase):
    def leads(self, before, later, wanted):
        """These are the strokes, and painted they come to the later lines."""
        self.tells(wanted, strokes, before, later)
        self.same(trimmed(painted(before, wanted)), trimmed(later))


class Strokes(PaintCase):
    def test_the_same_lines(self):
        for lines in ([], [""], ["a"], ["a b  c "], ["", "a", ""], [LONG] * 30, [" " * 200]):
            self.leads(lines, list(lines), [])

    def test_one_sign(self):
        self.leads(["abc"], ["xbc"], [(0, 0, "x")])
        self.leads(["abc"], ["axc"], [(0, 1, "x")])
        self.leads(["abc"], ["abx"], [(0, 2, "x")])
        self.leads(["a", "b", "c"], ["a", "b", "x"], [(2, 0, "x")])

    def test_signs_side_by_side(self):
        self.leads(["abcdef"], ["abxyef"], [(0, 2, "xy")])
        self.leads(["abcdef"], ["uvwxyz"], [(0, 0, "uvwxyz")])

    def test_up_to_two_like_ones_between(self):
        self.leads(["abcdefgh"], ["xbyzefgh"], [(0, 0, "xbyz")])
        self.leads(["abcdefgh"], ["abxdyfgh"], [(0, 2, "xdy")])
        self.leads(["abcdefgh"], ["abxdeygh"], [(0, 2, "xdey")])

    def test_three_like_ones_between(self):
        self.leads(["abcdefgh"], ["abxdefyh"], [(0, 2, "x"), (0, 6, "y")])
        self.leads(["abcdefgh"], ["xbcdyfgz"], [(0, 0, "x"), (0, 4, "yfgz")])
        self.leads(["abcdefghijkl"], ["xbcyefghijkz"], [(0, 0, "xbcy"), (0, 11, "z")])

    def test_like_ones_are_counted_from_the_last_that_differs(self):
        self.leads(["a........."], ["b..b..b..b"], [(0, 0, "b..b..b..b")])
        self.leads(["a..........."], ["b..b...b..b."], [(0, 0, "b..b"), (0, 7, "b..b")])
        self.leads(["a......"], ["bb...b."], [(0, 0, "bb"), (0, 5, "b")])
        self.leads(["a......."], ["bb..b..."], [(0, 0, "bb..b")])

    def test_like_ones_at_begin_and_end_are_left_out(self):
        self.leads(["..a.."], ["..b.."], [(0, 2, "b")])
        self.leads([".a"], [".b"], [(0, 1, "b")])
        self.leads(["a."], ["b."], [(0, 0, "b")])

    def test_blanks_are_like_ones_too(self):
        self.leads(["a  b"], ["c  d"], [(0, 0, "c  d")])
        self.leads(["a   b"], ["c   d"], [(0, 0, "c"), (0, 4, "d")])

    def test_signs_that_become_blanks(self):
        self.leads(["abc"], ["a c"], [(0, 1, " ")])
        self.leads(["abcd"], ["a  d"], [(0, 1, "  ")])
        self.leads(["abc"], ["   "], [(0, 0, "   ")])
        self.leads(["a c"], ["abc"], [(0, 1, "b")])

    def test_lines_that_are_cut(self):
        self.leads(["abcdef"], ["abc"], [(0, 3, "   ")])
        self.leads(["abcdef"], [""], [(0, 0, "      ")])
        self.leads(["abcdef"], ["abx"], [(0, 2, "x   ")])
        self.leads(["ab   f"], ["ab"], [(0, 5, " ")])
        self.leads(["ab    "], ["ab"], [])
        self.leads(["ab    "], ["ax"], [(0, 1, "x")])
        self.leads(["abc  d  "], ["ab"], [(0, 2, "    ")])
        self.leads(["abc   d  "], ["ab"], [(0, 2, " "), (0, 6, " ")])

    def test_lines_that_are_longer(self):
        self.leads(["abc"], ["abcdef"], [(0, 3, "def")])
        self.leads([""], ["abc"], [(0, 0, "abc")])
        self.leads(["ab"], ["ab  c"], [(0, 4, "c")])
        self.leads(["ab"], ["ab    "], [])
        self.leads(["ab"], ["xb  c"], [(0, 0, "x"), (0, 4, "c")])
        self.leads(["ab"], ["xb c"], [(0, 0, "xb c")])
        self.leads(["a"], ["a b  c   d"], [(0, 2, "b  c"), (0, 9, "d")])

    def test_more_lines(self):
        self.leads(["a"], ["a", "b", "cd"], [(1, 0, "b"), (2, 0, "cd")])
        self.leads([], ["ab", "", "  c"], [(0, 0, "ab"), (2, 2, "c")])
        self.leads(["a"], ["a", "", "   "], [])
        self.leads([], ["a b", "c   d"], [(0, 0, "a b"), (1, 0, "c"), (1, 4, "d")])

    def test_fewer_lines(self):
        self.leads(["a", "b", "cd"], ["a"], [(1, 0, " "), (2, 0, "  ")])
        self.leads(["ab", "", "  c"], [], [(0, 0, "  "), (2, 2, " ")])
        self.leads(["a", "", "   "], ["a"], [])
        self.leads(["a b", "c   d"], [], [(0, 0, "   "), (1, 0, " "), (1, 4, " ")])

    def test_empty_lists(self):
        self.leads([], [], [])
        self.leads([], [""], [])
        self.leads([""], [], [])
        self.leads([], [" " * 200] * 30, [])
        self.leads([" " * 200] * 30, [], [])

    def test_lines_in_turn_and_strokes_in_turn(self):
        self.leads(["aaaaaaaaaa", "b", "c"], ["xaaaaxaaax", "b", "y"],
                   [(0, 0, "x"), (0, 5, "x"), (0, 9, "x"), (2, 0, "y")])
        self.leads(["1", "2", "3", "4"], ["2", "2", "4", "3"], [(0, 0, "2"), (2, 0, "4"), (3, 0, "3")])

    def test_lines_of_two_hundred_signs(self):
        self.leads([LONG], [LONG[:-1] + "x"], [(0, 199, "x")])
        self.leads([LONG], ["x" + LONG[1:-1] + "x"], [(0, 0, "x"), (0, 199, "x")])
        self.leads([], [LONG], [(0, 0, LONG)])
        self.leads([LONG], [], [(0, 0, " " * 200)])
        self.leads(["a" * 200], ["b" * 200], [(0, 0, "b" * 200)])
        self.leads([LONG], [LONG[:100]], [(0, 100, " " * 100)])

    def test_thirty_lines(self):
        self.leads([LONG] * 30, [LONG] * 29 + ["x" + LONG[1:]], [(29, 0, "x")])
        self.leads([], ["a"] * 30, [(number, 0, "a") for number in range(30)])
        self.leads(["a"] * 30, [], [(number, 0, " ") for number in range(30)])

    def test_all_short_texts(self):
        texts = ["".join("ab"[number >> at & 1] for at in range(8)) for number in range(2 ** 8)]
        for new in texts:
            self.same(strokes(["aaaaaaaa"], [new]), wanted_strokes(["aaaaaaaa"], [new]))

    def test_what_is_shown_of_pages(self):
        pages = made_pages(61, 80)
        for page, other, style, second in zip(pages, pages[1:], made_styles(62, 80), made_styles(63, 80)):
            before, later = shown(page, style), shown(other, second)
            self.leads(before, later, wanted_strokes(before, later))

    def test_made_lines(self):
        chance = random.Random(64)
        for _ in range(150):
            before, later = (["".join(chance.choice("ab ") for _ in range(chance.choice((0, 3, 12, 40))))
                              for _ in range(chance.randint(0, 5))] for _ in range(2))
            self.leads(before, later, wanted_strokes(before, later))


class StrokesRefuse(GrowCase):
    def bad(self, number, lines):
        for others in ([], ["a", "b"], ["a"] * 30):
            self.refuses("BadLines", number, strokes, lines, others)
            self.refuses("BadLines", number, strokes, others, lines)
        # The first lines are refused ahead of the later ones.
        for others in (None, ["a"] * 7 + [None], ["a"] * 31, "a"):
            self.refuses("BadLines", number, strokes, lines, others)

    def test_what_is_no_list(self):
        for lines in NO_LISTS:
            self.bad(0, lines)

    def test_what_is_no_line(self):
        for line in NO_LINES:
            self.bad(0, [line])
            self.bad(2, ["a", "", line, None])

    def test_signs_that_are_none(self):
        for sign in NO_SIGNS:
            self.bad(1, ["a", "a" + sign + "b", "c"])

    def test_the_thirty_first_line(self):
        self.bad(30, [""] * 31)
        self.bad(30, ["a"] * 30 + [None])
        self.bad(29, ["a"] * 29 + [None, "a"])

    def test_lines_that_are_as_bad(self):
        self.refuses("BadLines", 3, strokes, ["a"] * 3 + [5], [7])
        self.refuses("BadLines", 0, strokes, [5], ["a"] * 3 + [7])


class Painted(GrowCase):
    def paints(self, wanted, lines, drawn):
        self.tells(wanted, painted, lines, drawn)
        self.same(canvas(lines, drawn), wanted)

    def test_no_strokes(self):
        self.paints([], [], [])
        self.paints(["a", "", " b"], ["a", "", " b"], [])

    def test_blanks_at_the_ends_of_all_lines_are_left_out(self):
        self.paints(["a", "", " b", ""], ["a  ", "   ", " b ", ""], [])
        self.paints(["x", "", " b", ""], ["a  ", "   ", " b ", ""], [(0, 0, "x")])
        self.paints([LONG[:199], ""], [LONG[:199] + " ", " " * 200], [])

    def test_empty_lines_behind_stay(self):
        self.paints(["a", "", ""], ["a", "", ""], [])
        self.paints(["", "", ""], ["a", "b", "c"], [(0, 0, " "), (1, 0, " "), (2, 0, " ")])
        self.paints(["", "", ""], [], [(2, 0, " ")])

    def test_at_a_lines_begin_inside_and_at_its_end(self):
        self.paints(["xycdef"], ["abcdef"], [(0, 0, "xy")])
        self.paints(["abxyef"], ["abcdef"], [(0, 2, "xy")])
        self.paints(["abcdxy"], ["abcdef"], [(0, 4, "xy")])
        self.paints(["uvwxyz"], ["abcdef"], [(0, 0, "uvwxyz")])

    def test_over_a_lines_end_and_beyond(self):
        self.paints(["abcdexy"], ["abcdef"], [(0, 5, "xy")])
        self.paints(["abcdefxy"], ["abcdef"], [(0, 6, "xy")])
        self.paints(["abcdef   xy"], ["abcdef"], [(0, 9, "xy")])
        self.paints(["   x"], [""], [(0, 3, "x")])

    def test_lines_that_are_not_there_yet(self):
        self.paints(["a", "x"], ["a"], [(1, 0, "x")])
        self.paints(["a", "", "", "  x"], ["a"], [(3, 2, "x")])
        self.paints(["", "x"], [], [(1, 0, "x")])
        self.paints(["y", "", "x"], [], [(2, 0, "x"), (0, 0, "y")])

    def test_the_last_line(self):
        self.paints([""] * 29 + ["x"], [], [(29, 0, "x")])
        self.paints(["a"] * 29 + ["x"], ["a"] * 30, [(29, 0, "x")])
        self.paints(["a"] * 29 + ["x"], ["a"] * 29, [(29, 0, "x")])

    def test_strokes_over_one_another(self):
        self.paints(["axyyf"], ["abcdf"], [(0, 1, "xxx"), (0, 2, "yy")])
        self.paints(["axxxf"], ["abcdf"], [(0, 2, "yy"), (0, 1, "xxx")])
        self.paints(["b"], [], [(0, 0, "a"), (0, 0, "b")])
        self.paints(["a", "c"], [], [(1, 0, "b"), (0, 0, "a"), (1, 0, "c")])

    def test_blanks_cover_too(self):
        self.paints(["a  d"], ["abcd"], [(0, 1, "  ")])
        self.paints(["a x"], ["abcd"], [(0, 1, " x ")])
        self.paints(["ab"], ["abcd"], [(0, 2, "  ")])
        self.paints(["ab"], ["ab"], [(0, 2, "     ")])
        self.paints([" b"], ["ab"], [(0, 0, " ")])

    def test_blanks_that_are_covered_later(self):
        self.paints(["ab   x"], ["ab"], [(0, 2, "    "), (0, 5, "x")])

    def test_a_stroke_that_ends_at_two_hundred(self):
        self.paints([" " * 199 + "x"], [], [(0, 199, "x")])
        self.paints([LONG], [], [(0, 0, LONG)])
        self.paints(["a" * 100 + LONG[100:]], ["a" * 200], [(0, 100, LONG[100:])])
        self.paints(["a" * 199 + "x"], ["a" * 200], [(0, 199, "x")])
        self.paints([""], [], [(0, 0, " " * 200)])

    def test_all_signs(self):
        signs = "".join(chr(number) for number in range(32, 127) if number != 37)
        self.paints(["a" + signs], ["a"], [(0, 1, signs)])

    def test_more_strokes_than_lines(self):
        drawn = [(number % 30, number // 30, str(number % 10)) for number in range(600)]
        self.paints([str(number % 10) * 20 for number in range(30)], [], drawn)

    def test_made_strokes(self):
        chance = random.Random(65)
        for _ in range(150):
            lines = ["".join(chance.choice("ab ") for _ in range(chance.choice((0, 3, 12, 200))))
                     for _ in range(chance.choice((0, 1, 4, 30)))]
            drawn = []
            for _ in range(chance.randint(0, 8)):
                signs = "".join(chance.choice("xy ") for _ in range(chance.choice((1, 1, 4, 30))))
                number = chance.choice((0, 1, 2, chance.randint(0, 29)))
                drawn.append((number, chance.choice((0, 1, 5, 11, 170)), signs))
            self.paints(canvas(lines, drawn), lines, drawn)


class PaintedRefuses(GrowCase):
    def bad(self, stroke):
        good = (0, 0, "x")
        for lines in ([], ["ab"], ["a" * 200] * 30):
            self.refuses("BadStroke", 0, painted, lines, [stroke])
            self.refuses("BadStroke", 1, painted, lines, [good, stroke])
            self.refuses("BadStroke", 2, painted, lines, [good, good, stroke, good, None])
        # Lines are refused ahead of strokes.
        self.refuses("BadLines", 1, painted, ["a", None], [stroke])
        self.refuses("BadLines", 30, painted, [""] * 31, [stroke])

    def test_what_is_no_list(self):
        for drawn in NO_LISTS:
            self.refuses("BadStroke", 0, painted, ["ab"], drawn)
            self.refuses("BadLines", 0, painted, None, drawn)
        self.refuses("BadStroke", 0, painted, ["ab"], ((0, 0, "x"),))
        self.refuses("BadStroke", 0, painted, ["ab"], (0, 0, "x"))

    def test_what_is_no_tuple(self):
        for stroke in (None, True, False, 0, 1, "", "x", "00x", [], [0, 0, "x"], [(0, 0, "x")]):
            self.bad(stroke)

    def test_two_parts_and_four(self):
        for stroke in ((), (0,), (0, 0), (0, "x"), (0, 0, "x", 0), (0, 0, "x", "x"), ((0, 0, "x"),)):
            self.bad(stroke)

    def test_what_is_no_line(self):
        for number in (-1, -30, 30, 31, 1000, True, False, None, "0", "", (), (0,), [], [0]):
            self.bad((number, 0, "x"))

    def test_what_is_no_begin(self):
        for begin in (-1, -200, 200, 201, 1000, True, False, None, "0", "", (), (0,), [], [0]):
            self.bad((0, begin, "x"))

    def test_what_are_no_signs(self):
        for signs in ("",) + NO_LINES:
            self.bad((0, 0, signs))
            self.bad((0, 100, signs))
        for sign in NO_SIGNS:
            self.bad((0, 0, sign))
            self.bad((0, 3, "a" + sign + "b"))

    def test_a_stroke_that_ends_at_two_hundred_and_one(self):
        for begin, signs in ((200, "x"), (199, "xy"), (1, LONG), (101, "a" * 100), (150, " " * 51), (0, LONG + "x")):
            self.bad((0, begin, signs))
            self.bad((29, begin, signs))

    def test_the_lines_that_are_refused(self):
        for lines in NO_LISTS:
            self.refuses("BadLines", 0, painted, lines, [(0, 0, "x")])
        for line in NO_LINES:
            self.refuses("BadLines", 1, painted, ["a", line, None], [(0, 0, "x")])
        for sign in NO_SIGNS:
            self.refuses("BadLines", 2, painted, ["a", "b", sign], [])
        self.refuses("BadLines", 30, painted, [""] * 31, [])
        self.refuses("BadLines", 29, painted, [""] * 29 + [None, ""], [])

    def test_nothing_is_painted_by_what_is_refused(self):
        lines = ["ab"]
        self.refuses("BadStroke", 1, painted, lines, [(0, 0, "x"), (0, 0, "")])
        self.tells(["ab"], painted, lines, [])


class Kept(GrowCase):
    def test_lists_that_are_changed_later(self):
        before, later, drawn = ["ab"], ["cb", "d"], [(0, 0, "x")]
        told = strokes(before, later)
        lines = painted(before, drawn)
        before[0], later[0] = "zz", "zy"
        drawn.append((0, 1, "q"))
        self.same(told, [(0, 0, "c"), (1, 0, "d")])
        self.same(lines, ["xb"])
        self.tells([(0, 1, "y"), (1, 0, "d")], strokes, before, later)
        self.tells(["xq"], painted, before, drawn)

    def test_one_list_handed_in_twice(self):
        lines = ["ab", "c"]
        self.same(strokes(lines, lines), [])
        self.same(lines, ["ab", "c"])


if __name__ == "__main__":
    unittest.main()
