"""[16] to [18]: hands beside a second model of them, and one hand beside a cursor."""

import itertools
import random
import unittest

from tabgrow.cursors import Cursor
from tabgrow.errors import BadCell, GrowError
from tabgrow.hands import Table
from tabgrow.laying import laid
from tests.common import GrowCase, made_pages, made_styles, spoil
from tests.hands_model import HandsModel, Refused

FULL = [("0123456789",) * 6] + [("a", "")] * 28 + [("",)]
PAGES = ([("",)], [("ab",)], [("a", "b"), ("c",)], [("0123456789", "012345"), ("56789",)], [("a",) * 6, ("b",) * 5],
         [("",)] * 30, [("a", "b")] * 29, FULL, [("012345678",)] * 2)
# What a hand does, and how often.
WAYS = ("press",) * 5 + ("rub",) * 3 + ("back",) * 3 + ("again",) * 3 + ("left",) * 3 + ("right",) * 3
SIGNS = ("a", "b", "7", " ", "\t", "\t", "\n", "\n", "%", "")


def outcome(call, *handed):
    """(what is told, None) or (None, the name of the refusal)."""
    try:
        return call(*handed), None
    except GrowError as error:
        return None, type(error).__name__
    except Refused as error:
        return None, str(error)


class Beside(GrowCase):
    def both(self, table, model, style, name, *handed):
        """The table does what the model does, and stands as it does then."""
        self.same(outcome(getattr(table, name), *handed), outcome(getattr(model, name), *handed), (name, handed))
        self.alike(table, model, style)

    def alike(self, table, model, style):
        page, told = table.page(), table.told()
        self.same(page, model.page())
        self.same(told, model.told())
        self.same(table.begins(), laid(page, style))
        self.same([table.at(hand) for hand in range(len(model.done))],
                  [model.at(hand) for hand in range(len(model.done))])
        spoil(page)
        spoil(told)
        self.same(table.page(), model.page())
        self.same(table.told(), model.told())

    def walk(self, seed, page, style, hands, many):
        chance = random.Random(seed)
        table, model = Table(page, style, hands), HandsModel(page, hands)
        self.alike(table, model, style)
        for hand in range(hands):
            for _ in range(chance.choice((0, 0, 3, 20))):
                self.same(table.right(hand), model.right(hand))
        for _ in range(many):
            name, hand = chance.choice(WAYS), chance.randrange(hands)
            handed = (hand, chance.choice(SIGNS)) if name == "press" else (hand,)
            self.both(table, model, style, name, *handed)

    def test_made_pages(self):
        for seed, (page, style) in enumerate(zip(made_pages(101, 40, 4), made_styles(102, 40))):
            self.walk(seed, page, style, 1 + seed % 4, 60)

    def test_pages_with_little_room(self):
        for seed in range(4):
            for page in PAGES:
                self.walk(seed, page, (1, 0), 4 - seed, 40)

    def test_all_short_ways(self):
        """All that two hands can do in four deeds, in a page in which there is room for little."""
        deeds = [(name, hand) for hand in (0, 1) for name in ("rub", "back", "again")]
        deeds += [("press", 0, "x"), ("press", 1, "\t")]
        page = [("012345678", "a", "b", "c", "d")]
        for way in itertools.product(deeds, repeat=4):
            table, model = Table(page, (1, 0), 2), HandsModel(page, 2)
            for _ in range(3):
                table.right(0), model.right(0)
            for _ in range(4):
                table.right(1), model.right(1)
            for name, *handed in way:
                self.same(outcome(getattr(table, name), *handed), outcome(getattr(model, name), *handed), way)
            self.same((table.page(), table.told(), table.at(0), table.at(1)),
                      (model.page(), model.told(), model.at(0), model.at(1)), way)

    def test_many_deeds(self):
        """More than a page has signs, all taken back, and all done again."""
        table, model = Table([("ab",)], (1, 0), 2), HandsModel([("ab",)], 2)
        for turn in range(150):
            for deeds in (("press", turn % 2, "x"), ("rub", (turn + 1) % 2)) if turn % 3 else (("press", 0, "y"),):
                self.same(outcome(getattr(table, deeds[0]), *deeds[1:]), outcome(getattr(model, deeds[0]), *deeds[1:]))
            if turn % 5 == 0:
                self.same(table.right(turn % 2), model.right(turn % 2))
        self.alike(table, model, (1, 0))
        for name in ("back", "again"):
            going = True
            while going:
                going = False
                for hand in (0, 1):
                    told = outcome(getattr(table, name), hand)
                    self.same(told, outcome(getattr(model, name), hand))
                    going = going or told[0] is True
            self.alike(table, model, (1, 0))


class BesideACursor(GrowCase):
    """A table of one hand goes, presses and rubs as a cursor does."""

    def walk(self, seed, page, style):
        chance = random.Random(seed)
        table, cursor = Table(page, style, 1), Cursor(page, style)
        for _ in range(60):
            name = chance.choice(("press", "press", "rub", "left", "right", "right"))
            handed = (chance.choice(SIGNS),) if name == "press" else ()
            told, refused = outcome(getattr(table, name), 0, *handed)
            wanted, why = outcome(getattr(cursor, name), *handed)
            self.assertIs(told, wanted)
            # What has no room is refused by a cursor as a sheet does.
            self.assertEqual(refused is None, why is None)
            if refused == "BadCell":
                self.assertEqual(why, "BadCell")
            self.same(table.at(0), cursor.at())
            self.same(table.page(), cursor.page())
            row, cell, place = table.at(0)
            self.same(table.begins()[row][cell] + place, cursor.aside())

    def test_made_pages(self):
        for seed, (page, style) in enumerate(zip(made_pages(103, 40, 4), made_styles(104, 40))):
            self.walk(seed, page, style)

    def test_pages_with_little_room(self):
        for seed in range(6):
            for page in PAGES:
                self.walk(seed, page, (2, 3))

    def test_through_the_page(self):
        for page in made_pages(105, 20, 4):
            table, cursor = Table(page, (1, 0), 1), Cursor(page, (1, 0))
            going = True
            while going:
                self.same(table.at(0), cursor.at())
                going = table.right(0)
                self.assertIs(cursor.right(), going)
            going = True
            while going:
                self.same(table.at(0), cursor.at())
                going = table.left(0)
                self.assertIs(cursor.left(), going)
            self.same(table.at(0), (0, 0, 0))
            with self.assertRaises(BadCell):
                table.rub(0)


if __name__ == "__main__":
    unittest.main()
