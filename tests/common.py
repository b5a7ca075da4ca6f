"""What the tests share: asking in a way that watches the handed and the told, and pages to ask about."""

import copy
import random
import unittest

from tabgrow import errors

REFUSALS = {
    "BadPage": "row", "BadStyle": None, "BadRow": None, "BadCell": None, "BadCount": None, "BadHand": None,
    "TooMuch": None, "BadLines": "line", "BadStep": "number", "BadStroke": "number", "BadText": "row",
}

# Things that are no page, no style, no lines and no list of lists, whatever stands in them.
NO_LISTS = (None, True, False, 0, 1, -1, 30, "", "a", "ab", "12", (), (("a",),), ("a", "b"), ([0],), ((), ()))

# Things that are no line, and signs that stand in none.
NO_LINES = (None, True, False, 0, 5, (), ("a",), [], ["a"], "a" * 201, " " * 201, "a" * 1000)
NO_SIGNS = ("\t", "\n", "\r", "%", "\x00", "\x1f", "\x7f", "\x80", "\u00e9", "\u00b2", "\u3000", "\U0001f600")

CELLS = ("", "", "7", "42", "-5", "0123456789", "-", "--3", "3-", "-1-", "+4", "1 2", " 8", "9 ", "x", "word",
         "ten  signs", " ", "   ", " a", "b ", "a b", "~", "!", "$&")

PLAIN_STYLES = ((0, 0), (1, 0), (2, 0), (4, 0), (0, 12), (4, 12), (1, 5), (3, 4))


def lists_in(value):
    """All lists in a value, itself too."""
    found = [value] if isinstance(value, list) else []
    if isinstance(value, (list, tuple)):
        for part in value:
            found.extend(lists_in(part))
    return found


def spoil(value):
    """Change every list in a value."""
    for part in lists_in(value):
        part.reverse()
        part.append("spoilt")


def made_pages(seed, many, most_rows=7, cells=CELLS):
    """Pages of all sorts, the same at each run."""
    chance = random.Random(seed)
    pages = []
    for _ in range(many):
        rows = chance.randint(1, most_rows)
        most = chance.randint(1, 6)
        pool = chance.choice((cells, cells[:6], ("", "1", "-22")))
        pages.append([tuple(chance.choice(pool) for _ in range(chance.randint(1, most))) for _ in range(rows)])
    return pages


def made_styles(seed, many):
    chance = random.Random(seed)
    return [(chance.randint(0, 4), chance.randint(0, 12)) for _ in range(many)]


class GrowCase(unittest.TestCase):
    """A case that compares to the letter: True is no 1, and a list no tuple."""

    def same(self, got, wanted, why=None):
        self.assertEqual(got, wanted, why)
        self.assertEqual(repr(got), repr(wanted), why)

    def told(self, call, *handed):
        """What is told; what is handed in stays, and what is told is the asker's own."""
        before = copy.deepcopy(handed)
        first = call(*handed)
        kept = copy.deepcopy(first)
        lists = lists_in(first)
        self.assertEqual(len({id(part) for part in lists}), len(lists), "one list told at two places")
        self.same(handed, before, "what was handed in was changed")
        spoil(first)
        self.same(handed, before, "what was told is part of what was handed in")
        self.same(call(*handed), kept, "asked again, something else was told")
        later = copy.deepcopy(handed)
        third = call(*later)
        spoil(later)
        self.same(third, kept, "what was handed in was kept")
        return kept

    def tells(self, wanted, call, *handed):
        self.same(self.told(call, *handed), wanted, handed)

    def refuses(self, name, value, call, *handed):
        """Refused by the class of that name and no other one, with that value."""
        before = copy.deepcopy(handed)
        for _ in range(2):
            with self.assertRaises(errors.GrowError, msg=repr(handed)) as caught:
                call(*handed)
            error = caught.exception
            self.assertIsInstance(error, ValueError)
            for other in REFUSALS:
                self.assertEqual(isinstance(error, getattr(errors, other)), other == name, (other, handed))
            if REFUSALS[name] is not None:
                self.same(getattr(error, REFUSALS[name]), value, handed)
            self.same(handed, before, "what was refused was changed")
