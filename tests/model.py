"""A second way to tell what sheets and cursors do: the page as one text, a tab between cells, a line end between rows.

A spot in it is one number: how many signs, tabs and line ends stand ahead.
"""

from tabgrow.laying import laid

SIGNS = "".join(chr(number) for number in range(32, 127) if number != 37)


def text_of(page):
    return "\n".join("\t".join(row) for row in page)


def page_of(text):
    return [tuple(line.split("\t")) for line in text.split("\n")]


def at_of(text, spot):
    """(row, cell, place) of a spot."""
    ahead = text[:spot].split("\n")
    cells = ahead[-1].split("\t")
    return len(ahead) - 1, len(cells) - 1, len(cells[-1])


def spot_of(page, number, cell, place):
    rows = [text_of([row]) for row in page[:number]]
    cells = page[number][:cell]
    return sum(len(row) + 1 for row in rows) + sum(len(each) + 1 for each in cells) + place


def laid_spots(page, style, number):
    """(aside, (row, cell, place)) of all places of a row, in turn."""
    begins = laid(page, style)[number]
    return [(begins[cell] + place, (number, cell, place))
            for cell, text in enumerate(page[number]) for place in range(len(text) + 1)]


def put(page, number, row):
    return page[:number] + [row] + page[number:], 0, 1


def take(page, number):
    return page[:number] + page[number + 1:], 1, 0


def change(page, number, row):
    return page[:number] + [row] + page[number + 1:], 1, 1


def insert(page, spot, sign):
    text = text_of(page)
    return page_of(text[:spot] + sign + text[spot:])


def without(page, spot):
    text = text_of(page)
    return page_of(text[:spot] + text[spot + 1:])


def strike(page, number, cell, place, sign):
    return insert(page, spot_of(page, number, cell, place), sign), 1, 1


def erase(page, number, cell, place):
    return without(page, spot_of(page, number, cell, place)), 1, 1


def part(page, number, cell, place):
    return insert(page, spot_of(page, number, cell, place), "\n"), 1, 2


def unite(page, number):
    return without(page, spot_of(page, number + 1, 0, 0) - 1), 2, 1


DEEDS = {"put": put, "take": take, "change": change, "strike": strike, "erase": erase, "part": part, "unite": unite}


def done(page, style, name, *handed):
    """(the page behind a deed that isn't refused, what it tells)."""
    later, gone, come = DEEDS[name](page, *handed)
    number = handed[0]
    before, after = laid(page, style), laid(later, style)
    told = []
    for now in range(len(later)):
        if now < number:
            was = now
        elif now >= number + come:
            was = now + gone - come
        else:
            continue
        assert page[was] == later[now]
        told += [(now, cell, before[was][cell], after[now][cell])
                 for cell in range(len(later[now])) if before[was][cell] != after[now][cell]]
    return later, told


def misfit(page):
    """The refusal of what a deed would make, or None."""
    if not 1 <= len(page) <= 30:
        return "BadRow"
    if any(len(row) > 6 or any(len(cell) > 10 for cell in row) for row in page):
        return "BadCell"
    return None
