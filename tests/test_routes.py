"""[13]: the fewest steps from page to page, and what steps do."""

import itertools
import random
import unittest

from tabgrow.routes import route, stepped
from tabgrow.sheets import Sheet
from tests import model
from tests.common import NO_LISTS, GrowCase, made_pages, made_styles

A, B, C, D = ("a",), ("b", "1"), ("", "c"), ("d",)
MANY = [(f"r{number}", "x") for number in range(30)]


def walked(page, steps):
    """The page behind steps, whether or not a sheet has room for them."""
    for word, *handed in steps:
        page = model.DEEDS[word](page, *handed)[0]
    return page


def all_ways(page, other):
    """All ways through two pages, each a tuple of 0 kept, 1 changed, 2 put, 3 taken."""
    found = [()] if not page and not other else []
    if page and other:
        kinds = (0, 1) if page[0] == other[0] else (1,)
        found += [(kind,) + way for kind in kinds for way in all_ways(page[1:], other[1:])]
    if other:
        found += [(2,) + way for way in all_ways(page, other[1:])]
    if page:
        found += [(3,) + way for way in all_ways(page[1:], other)]
    return found


def best_route(page, other):
    """The route by looking at all ways: the fewest steps, then the first kinds."""
    way = min(all_ways(page, other), key=lambda way: (sum(kind > 0 for kind in way), way))
    steps, number = [], 0
    for kind in way:
        if kind == 1:
            steps.append(("change", number, other[number]))
        elif kind == 2:
            steps.append(("put", number, other[number]))
        elif kind == 3:
            steps.append(("take", number))
        number += kind < 3
    return steps


def fewest(page, other, rows):
    """How many steps are needed, by trying all steps with these rows from a page on."""
    ring, seen, many = [page], {tuple(page)}, 0
    while other not in ring:
        many += 1
        later = []
        for each in ring:
            for number in range(len(each) + 1):
                later += [each[:number] + [row] + each[number:] for row in rows]
                if number < len(each):
                    later += [each[:number] + [row] + each[number + 1:] for row in rows]
                    later.append(each[:number] + each[number + 1:])
        ring = []
        for each in later:
            if 1 <= len(each) <= 5 and tuple(each) not in seen:
                seen.add(tuple(each))
                ring.append(each)
    return many


class Route(GrowCase):
    def leads(self, page, other, steps):
        self.tells(steps, route, page, other)
        self.same(walked(page, steps), other)

    def test_to_the_same_page(self):
        for page in ([A], [("",)], [A, B, C], [A] * 30, MANY, [A, A, B, A]):
            self.leads(page, list(page), [])

    def test_one_put(self):
        self.leads([A, B], [C, A, B], [("put", 0, C)])
        self.leads([A, B], [A, C, B], [("put", 1, C)])
        self.leads([A, B], [A, B, C], [("put", 2, C)])

    def test_one_take(self):
        self.leads([A, B, C], [B, C], [("take", 0)])
        self.leads([A, B, C], [A, C], [("take", 1)])
        self.leads([A, B, C], [A, B], [("take", 2)])

    def test_one_change(self):
        self.leads([A, B, C], [D, B, C], [("change", 0, D)])
        self.leads([A, B, C], [A, D, C], [("change", 1, D)])
        self.leads([A, B, C], [A, B, D], [("change", 2, D)])
        self.leads([A], [B], [("change", 0, B)])

    def test_several(self):
        self.leads([A, B, C], [D, A, B], [("put", 0, D), ("take", 3)])
        self.leads([A, B, C, D], [B, A, D], [("take", 0), ("change", 1, A)])
        self.leads([A, B, C], [B, D, C, A], [("change", 0, B), ("change", 1, D), ("put", 3, A)])
        self.leads([A, B, C, D], [B, C, A, D, A], [("take", 0), ("put", 2, A), ("put", 4, A)])

    def test_all(self):
        self.leads([A, B], [C, D], [("change", 0, C), ("change", 1, D)])
        self.leads([A], [B, C, D], [("change", 0, B), ("put", 1, C), ("put", 2, D)])
        self.leads([B, C, D], [A], [("change", 0, A), ("take", 1), ("take", 1)])

    def test_kept_ahead_of_put_and_take(self):
        self.leads([A], [A, A], [("put", 1, A)])
        self.leads([A, A], [A], [("take", 1)])
        self.leads([A, A, B], [A, B], [("take", 1)])
        self.leads([A, B], [A, A, B], [("put", 1, A)])
        self.leads([A] * 29, [A] * 30, [("put", 29, A)])

    def test_changed_ahead_of_put_and_take(self):
        self.leads([A, B, C], [D, A, C], [("change", 0, D), ("change", 1, A)])
        self.leads([A, B], [B, A], [("change", 0, B), ("change", 1, A)])
        self.leads([A], [B, C], [("change", 0, B), ("put", 1, C)])
        self.leads([A, B], [C], [("change", 0, C), ("take", 1)])

    def test_put_ahead_of_take(self):
        self.leads([A, B, A], [B, A, B], [("put", 0, B), ("take", 3)])
        self.leads([D, A, B, A], [D, B, A, B], [("put", 1, B), ("take", 4)])
        self.leads([A, B, A, B, C], [B, A, B, A, C], [("put", 0, B), ("take", 4)])

    def test_taken_if_nothing_else_does(self):
        self.leads([A, B, C, D], [B, C, D, A], [("take", 0), ("put", 3, A)])

    def test_rows_that_differ_a_little(self):
        self.leads([("a", "b")], [("a", "b", "")], [("change", 0, ("a", "b", ""))])
        self.leads([("a ",)], [("a",)], [("change", 0, ("a",))])
        self.leads([("ab",)], [("a", "b")], [("change", 0, ("a", "b"))])

    def test_thirty_rows(self):
        self.leads(MANY, [A] * 30, [("change", number, A) for number in range(30)])
        self.leads(MANY, MANY[1:], [("take", 0)])
        self.leads(MANY[:29], MANY, [("put", 29, MANY[29])])
        self.leads([A], [A] + MANY[:29], [("put", number + 1, MANY[number]) for number in range(29)])
        self.leads(MANY, [MANY[17]], [("take", 0)] * 17 + [("take", 1)] * 12)
        self.leads(MANY, MANY[1:] + [A], [("take", 0), ("put", 29, A)])

    def test_room_in_a_sheet_is_not_looked_at(self):
        steps = [("put", 0, A), ("take", 30)]
        self.leads(MANY, [A] + MANY[:29], steps)
        self.refuses("BadRow", None, stepped, MANY, (1, 0), steps)

    def test_as_all_ways_have_it(self):
        for many in itertools.product(range(1, 4), repeat=2):
            for rows in itertools.product((A, B), repeat=sum(many)):
                page, other = list(rows[:many[0]]), list(rows[many[0]:])
                self.leads(page, other, best_route(page, other))
        chance = random.Random(51)
        for _ in range(150):
            page, other = ([chance.choice((A, B, C, D)) for _ in range(chance.randint(1, 5))] for _ in range(2))
            self.leads(page, other, best_route(page, other))

    def test_no_steps_at_all_are_fewer(self):
        chance = random.Random(52)
        for _ in range(40):
            page, other = ([chance.choice((A, B, C)) for _ in range(chance.randint(1, 4))] for _ in range(2))
            self.assertEqual(len(route(page, other)), fewest(page, other, (A, B, C)), (page, other))

    def test_steps_lead_there_in_a_sheet(self):
        pages = made_pages(53, 60, 20, ("", "1"))
        for page, other, style in zip(pages, pages[1:], made_styles(54, 60)):
            steps = self.told(route, page, other)
            sheet = Sheet(page, style)
            many = [len(getattr(sheet, word)(*handed)) for word, *handed in steps]
            self.same(sheet.page(), other)
            self.tells((other, many), stepped, page, style, steps)

    def test_pages_that_cannot_be(self):
        for page in NO_LISTS + ([],):
            self.refuses("BadPage", 0, route, page, [A])
            self.refuses("BadPage", 0, route, [A], page)
        self.refuses("BadPage", 1, route, [A, None], [A, B, None])
        self.refuses("BadPage", 2, route, [A, B], [A, B, ("%",)])
        self.refuses("BadPage", 30, route, [A] * 31, [None])
        self.refuses("BadPage", 30, route, [A], [A] * 31)


class Stepped(GrowCase):
    PAGE = [("a", "b"), ("c",), ("longer", "d")]

    def test_no_steps(self):
        self.tells((self.PAGE, []), stepped, self.PAGE, (1, 0), [])

    def test_one_step(self):
        self.tells(([self.PAGE[0], self.PAGE[2]], [1]), stepped, self.PAGE, (1, 0), [("take", 1)])
        self.tells((self.PAGE + [("", "")], [0]), stepped, self.PAGE, (1, 0), [("put", 3, ("", ""))])
        self.tells(([self.PAGE[0], ("x", ""), self.PAGE[2]], [1]), stepped, self.PAGE, (1, 0),
                   [("change", 1, ("x", ""))])

    def test_several_steps(self):
        self.tells(([("1", "b"), ("longest", "x"), ("longer", "d")], [1, 2, 0]), stepped, self.PAGE, (1, 0),
                   [("take", 1), ("put", 1, ("longest", "x")), ("change", 0, ("1", "b"))])

    def test_cells_are_counted_not_rows(self):
        page = [("a", "b", "c"), ("longer", "d", "e"), ("f", "g", "h")]
        self.tells(([page[0], page[2]], [4]), stepped, page, (1, 0), [("take", 1)])
        self.tells(([page[0], ("x",), page[2]], [4]), stepped, page, (1, 0), [("change", 1, ("x",))])

    def test_the_style_counts(self):
        self.tells(([self.PAGE[0], self.PAGE[2]], [0]), stepped, self.PAGE, (1, 12), [("take", 1)])

    def test_to_thirty_rows_and_back_to_one(self):
        steps = [("put", 1, ("a", "b"))] * 29
        self.tells(([("a", "b")] * 30, [0] * 29), stepped, [("a", "b")], (1, 0), steps)
        self.tells(([("a", "b")], [0] * 58), stepped, [("a", "b")], (1, 0), steps + [("take", 0)] * 29)

    def test_no_word(self):
        for word in ("", "Put", "puts", "keep", "strike", "back", "unite", "PUT", " take", None, True, 0, 1, (),
                     ["put"], ("take",), ("put", 0, A)):
            for parts in ((), (0,), (0, A), (0, 0, 0, "a")):
                self.bad_step((word,) + parts)

    def test_too_few_or_too_many_parts(self):
        for step in (("put",), ("put", 0), ("put", 0, A, 0), ("change",), ("change", 0), ("change", 0, A, A),
                     ("take",), ("take", 0, A), ("take", 0, None), ("take", 0, A, 0)):
            self.bad_step(step)

    def test_what_is_no_tuple(self):
        for step in (None, True, False, 0, 1, "", "put", "take", "ta", (), [], ["take", 0], ["put", 0, A]):
            self.bad_step(step)

    def bad_step(self, step):
        """Told by its number, ahead of steps that the sheet refuses, and behind the page and the style."""
        good, refused = ("take", 0), ("take", 99)
        page = [A, B, C]
        for steps, number in (([step], 0), ([good, step], 1), ([refused, step], 1), ([step, refused], 0),
                              ([refused, good, step, good, step], 2), ([("put", None, None)] * 3 + [step], 3)):
            self.refuses("BadStep", number, stepped, page, (1, 0), steps)
        self.refuses("BadPage", 1, stepped, [A, None], (1, 0), [step])
        self.refuses("BadStyle", None, stepped, page, (5, 0), [step])
        self.refuses("BadPage", 1, stepped, [A, None], (5, 0), [step])

    def test_the_first_of_several(self):
        self.refuses("BadStep", 1, stepped, [A], (1, 0), [("take", 5), ("put",), None, ("take",)])

    def test_what_is_no_list_of_steps(self):
        for steps in NO_LISTS:
            self.refuses("BadStep", 0, stepped, [A, B], (1, 0), steps)

    def test_what_the_sheet_refuses(self):
        page = [A, B]
        for step in (("take", 2), ("take", -1), ("take", True), ("take", None), ("take", "0"), ("put", 3, A),
                     ("put", -1, A), ("put", False, A), ("put", 0, None), ("put", 0, list(A)), ("put", 0, ("%",)),
                     ("change", 2, A), ("change", None, A), ("change", 0, ()), ("change", 1, ("a",) * 7)):
            self.refuses("BadRow", None, stepped, page, (1, 0), [step])
            self.refuses("BadRow", None, stepped, page, (1, 0), [("put", 0, A), ("take", 0), step, ("take", 0)])
        self.refuses("BadRow", None, stepped, page, (1, 0), [("take", 0), ("take", 0)])
        self.refuses("BadRow", None, stepped, [A] * 30, (1, 0), [("put", 0, A)])
        self.refuses("BadRow", None, stepped, [A] * 29, (1, 0), [("put", 0, A), ("put", 0, A)])

    def test_made_steps(self):
        chance = random.Random(55)
        for page, style in zip(made_pages(56, 40), made_styles(57, 40)):
            steps, now, many = [], page, []
            for _ in range(chance.randint(0, 12)):
                row = tuple(chance.choice(("", "1", "word")) for _ in range(chance.randint(1, 4)))
                words = ["put", "change"] + ["take"] * (len(now) > 1)
                word = chance.choice(words)
                number = chance.randrange(len(now) + (word == "put"))
                steps.append((word, number) if word == "take" else (word, number, row))
                now, told = model.done(now, style, *steps[-1])
                many.append(len(told))
            self.tells((now, many), stepped, page, style, steps)


if __name__ == "__main__":
    unittest.main()
