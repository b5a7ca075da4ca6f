"""A second way to tell what a table does: each sign has a place of its own between 0 and 1, and what is there is told
from the deeds each time anew; what a hand may let stand again is told from all that it ever did."""

from fractions import Fraction

from tests import model

END = Fraction(1)


class Refused(Exception):
    """A deed that is refused, by the name of the refusal."""


class HandsModel:
    def __init__(self, page, hands):
        text = model.text_of(page)
        self.first = {Fraction(at, len(text) + 1): sign for at, sign in enumerate(text)}
        self.deeds = []
        self.done = [[] for _ in range(hands)]
        self.stands_at = [min(self.first, default=END)] * hands

    def signs(self, deeds):
        """{place: sign} of all that is there if these deeds are done."""
        found = dict(self.first)
        found.update({deed["place"]: deed["sign"] for deed in deeds if deed["sign"] and deed["stands"]})
        for deed in deeds:
            if not deed["sign"] and deed["stands"]:
                found.pop(deed["place"], None)
        return found

    def text(self, signs):
        return "".join(signs[place] for place in sorted(signs))

    def now(self):
        return self.signs(self.deeds)

    def take(self, deeds):
        """Go over to these deeds, if they lead to a page."""
        page = model.page_of(self.text(self.signs(deeds)))
        if model.misfit(page) is not None:
            raise Refused("TooMuch")
        self.deeds = deeds
        here = sorted(self.now()) + [END]
        self.stands_at = [min(place for place in here if place >= spot) for spot in self.stands_at]

    def with_stands(self, number, stands):
        return [dict(deed, stands=stands) if at == number else deed for at, deed in enumerate(self.deeds)]

    def press(self, hand, sign):
        if sign not in ("\t", "\n") and sign not in tuple(model.SIGNS):
            raise Refused("BadCell")
        spot = self.stands_at[hand]
        taken = [place for place in list(self.first) + [deed["place"] for deed in self.deeds] if place < spot]
        place = (max(taken, default=Fraction(-1)) + spot) / 2
        self.take(self.deeds + [{"hand": hand, "sign": sign, "place": place, "stands": True}])
        self.done[hand].append(("did", len(self.deeds) - 1))

    def rub(self, hand):
        ahead = [place for place in self.now() if place < self.stands_at[hand]]
        if not ahead:
            raise Refused("BadCell")
        self.take(self.deeds + [{"hand": hand, "sign": "", "place": max(ahead), "stands": True}])
        self.done[hand].append(("did", len(self.deeds) - 1))

    def back(self, hand):
        mine = [number for number, deed in enumerate(self.deeds) if deed["hand"] == hand and deed["stands"]]
        if not mine:
            return False
        self.take(self.with_stands(mine[-1], False))
        self.done[hand].append(("back", mine[-1]))
        return True

    def again(self, hand):
        number = self.next_again(hand)
        if number is None:
            return False
        self.take(self.with_stands(number, True))
        self.done[hand].append(("again", number))
        return True

    def next_again(self, hand):
        """The deed that the hand took back last, behind its last press or rub, and not let stand since; or None."""
        stood = []
        for word, number in reversed(self.done[hand]):
            if word == "did":
                return None
            if word == "again":
                stood.append(number)
            elif number not in stood:
                return number
        return None

    def left(self, hand):
        ahead = [place for place in self.now() if place < self.stands_at[hand]]
        if ahead:
            self.stands_at[hand] = max(ahead)
        return bool(ahead)

    def right(self, hand):
        behind = [place for place in list(self.now()) + [END] if place > self.stands_at[hand]]
        if behind:
            self.stands_at[hand] = min(behind)
        return bool(behind)

    def at(self, hand):
        signs = self.now()
        text = self.text(signs)
        return model.at_of(text, len([place for place in signs if place < self.stands_at[hand]]))

    def page(self):
        return model.page_of(self.text(self.now()))

    def told(self):
        return [(deed["hand"], deed["sign"], deed["stands"]) for deed in self.deeds]
