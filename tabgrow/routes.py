"""Routes: the fewest steps from a page to another one, and what steps do to a sheet."""

from tabgrow.checks import check_page
from tabgrow.errors import BadStep
from tabgrow.sheets import Sheet


def route(page, other):
    """Tell the fewest steps from a page to another one."""
    check_page(page)
    check_page(other)
    # Each entry is of what is left to do: the steps from the page's rows from one on to the other's from one on.
    plans = {}
    for here in range(len(page), -1, -1):
        for there in range(len(other), -1, -1):
            found = [steps + plans[rest] for steps, rest in ways(page, other, here, there)]
            # min tells the first of several that are as short, and the ways come in the order that is asked for.
            plans[(here, there)] = min(found, key=len, default=[])
    return plans[(0, 0)]


def ways(page, other, here, there):
    """Tell ([the step, if one is needed], what is left behind it) of all ways to begin what is left from there on."""
    found = []
    if here < len(page) and there < len(other):
        if page[here] == other[there]:
            found.append(([], (here + 1, there + 1)))
        found.append(([("change", there, other[there])], (here + 1, there + 1)))
    if there < len(other):
        found.append(([("put", there, other[there])], (here, there + 1)))
    if here < len(page):
        found.append(([("take", there)], (here + 1, there)))
    return found


def stepped(page, style, steps):
    """Tell the page behind steps, and of each how many cells it tells."""
    sheet = Sheet(page, style)
    check_steps(steps)
    many = []
    for step in steps:
        many.append(len(gone(sheet, step)))
    return sheet.page(), many


def gone(sheet, step):
    """Do a step in a sheet, and tell what it moves."""
    if step[0] == "put":
        return sheet.put(step[1], step[2])
    if step[0] == "change":
        return sheet.change(step[1], step[2])
    return sheet.take(step[1])


def check_steps(steps):
    """Refuse what are no steps by their words and how many parts they have."""
    if not isinstance(steps, list):
        raise BadStep(0)
    for number, step in enumerate(steps):
        if not is_step(step):
            raise BadStep(number)


def is_step(value):
    """Tell whether a value is a step by its word and how many parts it has."""
    if not isinstance(value, tuple) or len(value) == 0:
        return False
    # What is no word may be a list, so it is only compared.
    if value[0] == "take":
        return len(value) == 2
    return value[0] in ("put", "change") and len(value) == 3
