"""Hands: several of them press and rub in one page, and each takes its own deeds back."""

from tabgrow.checks import LINE_END, TAB, check_style, first_misfit, is_filled, is_whole
from tabgrow.errors import BadCell, BadCount, BadHand, TooMuch
from tabgrow.laying import laid
from tabgrow.notes import rows_of, written

MOST_HANDS = 4


class Table:
    """A page in a style, and its hands.

    Each sign, tab and line's end that was ever laid is a mark, numbered as it came; order is how they stand. The
    page's end is one, too, an empty one that never vanishes, so that each hand always stands ahead of a mark.
    """

    def __init__(self, page, style, hands):
        text = written(page)
        check_style(style)
        if not is_whole(hands, 1, MOST_HANDS):
            raise BadCount("a table has one to four hands")
        self.style = style
        self.signs = list(text) + [""]
        self.order = list(range(len(self.signs)))
        self.there = [True] * len(self.signs)
        # Of each deed: the hand, the sign or the empty text of a rub, the mark, and whether it stands.
        self.deeds = []
        # Of each hand: the mark that it stands ahead of, and the deeds that it may let stand again, the next one last.
        self.spots = [0] * hands
        self.undone = [[] for hand in range(hands)]

    def press(self, hand, sign):
        """Lay a sign, a tab or a line's end directly ahead of what the hand stands at."""
        self.check_hand(hand)
        check_mark(sign)
        mark = len(self.signs)
        order = list(self.order)
        order.insert(order.index(self.spots[hand]), mark)
        self.settle(self.signs + [sign], order, self.deeds + [(hand, sign, mark, True)])
        self.undone[hand] = []

    def rub(self, hand):
        """Let the nearest mark that is there ahead of the hand vanish."""
        self.check_hand(hand)
        mark = self.near(hand, -1)
        if mark is None:
            raise BadCell("nothing is there ahead of the hand")
        self.settle(self.signs, self.order, self.deeds + [(hand, "", mark, True)])
        self.undone[hand] = []

    def back(self, hand):
        """Take the last standing deed of the hand back, and tell whether there was one."""
        self.check_hand(hand)
        standing = [number for number, (own, sign, mark, stands) in enumerate(self.deeds) if own == hand and stands]
        if len(standing) == 0:
            return False
        self.turn(standing[-1], False)
        self.undone[hand].append(standing[-1])
        return True

    def again(self, hand):
        """Let the deed that the hand took back last stand again, and tell whether there was one."""
        self.check_hand(hand)
        if len(self.undone[hand]) == 0:
            return False
        self.turn(self.undone[hand][-1], True)
        # A deed that is refused stays the next one, so it is only now that it is none any more.
        self.undone[hand].pop()
        return True

    def left(self, hand):
        """Go ahead of the nearest mark that is there, and tell whether the hand went."""
        self.check_hand(hand)
        return self.go(hand, -1)

    def right(self, hand):
        """Go behind what the hand stands at, and tell whether it went."""
        self.check_hand(hand)
        return self.go(hand, 1)

    def at(self, hand):
        """Tell the (row, cell, place) where the hand stands."""
        self.check_hand(hand)
        present = self.present()
        rows = rows_of(text_of(self.signs, present[:present.index(self.spots[hand])]))
        return len(rows) - 1, len(rows[-1]) - 1, len(rows[-1][-1])

    def page(self):
        """Tell the page."""
        return rows_of(text_of(self.signs, self.present()))

    def begins(self):
        """Tell where the cells of the page begin."""
        return laid(self.page(), self.style)

    def told(self):
        """Tell (hand, sign, whether it stands) of all deeds, in turn."""
        return [(hand, sign, stands) for hand, sign, mark, stands in self.deeds]

    def check_hand(self, hand):
        """Refuse what is none of the table's hands."""
        if not is_whole(hand, 0, len(self.spots) - 1):
            raise BadHand("there is no hand of this number")

    def present(self):
        """Tell the marks that are there, as they stand."""
        return those_there(self.order, self.there)

    def near(self, hand, by):
        """Tell the mark so many on that is there, or None."""
        present = self.present()
        number = present.index(self.spots[hand]) + by
        if 0 <= number < len(present):
            return present[number]
        return None

    def go(self, hand, by):
        """Go so many marks on, and tell whether the hand went."""
        mark = self.near(hand, by)
        if mark is None:
            return False
        self.spots[hand] = mark
        return True

    def turn(self, number, stands):
        """Let a deed stand, or no more."""
        hand, sign, mark, stood = self.deeds[number]
        deeds = list(self.deeds)
        deeds[number] = (hand, sign, mark, stands)
        self.settle(self.signs, self.order, deeds)

    def settle(self, signs, order, deeds):
        """Take over marks and deeds by which what is there is a page, and let no hand stand at what vanished."""
        there = marks_there(len(signs), deeds)
        rows = rows_of(text_of(signs, those_there(order, there)))
        if first_misfit(rows) is not None:
            raise TooMuch("what is there would be no page")
        self.signs = signs
        self.order = order
        self.deeds = deeds
        self.there = there
        self.spots = [first_there(order, there, spot) for spot in self.spots]


def check_mark(sign):
    """Refuse what is neither a sign nor a tab nor a line's end."""
    if sign != TAB and sign != LINE_END and not is_filled(sign, 1):
        raise BadCell("what is laid is a sign of a cell, a tab or a line's end")


def marks_there(many, deeds):
    """Tell of each of so many marks whether it is there."""
    there = [True] * many
    for hand, sign, mark, stands in deeds:
        # A mark isn't there if its press doesn't stand, or if any of its rubs does.
        if stands == (sign == ""):
            there[mark] = False
    return there


def those_there(order, there):
    """Tell the marks that are there, as they stand."""
    return [mark for mark in order if there[mark]]


def text_of(signs, marks):
    """Tell the text of some marks."""
    return "".join([signs[mark] for mark in marks])


def first_there(order, there, spot):
    """Tell the first mark that is there, from one on; the page's end is always there."""
    number = order.index(spot)
    while not there[order[number]]:
        number += 1
    return order[number]
