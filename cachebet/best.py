"""The best that anybody could who knows all that comes.

Ways are a dict: for each rising tuple of pages that may be held behind some
asks (cost, before, gone): the least that this may have cost, what was held
ahead of the last ask then, and what went at it, or None.
"""

from cachebet.checks import check_costs, check_size, check_stream

EQUAL_COSTS = (1, 1, 1, 1, 1, 1, 1, 1, 1, 1)


def cheapest(size, stream, *, weights=None):
    """Tell (cost, goes): the least that the misses of a stream cost, and what goes for that at each ask."""
    check_size(size)
    check_stream(stream)
    check_costs(weights)
    costs = EQUAL_COSTS if weights is None else weights
    steps = [{(): (0, (), None)}]
    for page in stream:
        steps.append(ways_behind(steps[-1], size, page, costs[page]))
    cost, held = min([(way[0], pages) for pages, way in steps[-1].items()])
    return cost, goes_back_from(steps, held)


def farthest(size, stream):
    """Tell (misses, goes), if that goes whose next ask is farthest, or never comes."""
    check_size(size)
    check_stream(stream)
    held = ()
    misses = 0
    goes = []
    for number, page in enumerate(stream):
        gone = None
        if page not in held:
            misses += 1
            if len(held) == size:
                gone = farthest_page(held, stream[number + 1:])
            held = with_page(held, page, gone)
        goes.append(gone)
    return misses, goes


def with_page(held, page, gone):
    """Tell what is held when page comes, and gone goes, or nothing, if that's None."""
    return tuple(sorted([kept for kept in held if kept != gone] + [page]))


def ways_behind(ways, size, page, cost):
    """Tell the ways behind an ask of page, which costs so much where it's missed."""
    behind = {}
    for held, way in ways.items():
        spent = way[0]
        if page in held:
            note_way(behind, held, (spent, held, None))
        elif len(held) < size:
            note_way(behind, with_page(held, page, None), (spent + cost, held, None))
        else:
            for gone in held:
                note_way(behind, with_page(held, page, gone), (spent + cost, held, gone))
    return behind


def note_way(behind, held, way):
    """Keep a way to what is held, if no way that is noted costs as little."""
    if held not in behind or way[0] < behind[held][0]:
        behind[held] = way


def goes_back_from(steps, held):
    """Tell what went at each ask, by the ways of all steps, so that held is held at the end."""
    goes = []
    for ways in reversed(steps[1:]):
        before, gone = ways[held][1:]
        goes.append(gone)
        held = before
    goes.reverse()
    return goes


def farthest_page(held, later):
    """Tell the page of held whose next ask in later is farthest, or never comes: of several the least."""
    found = held[0]
    for page in held[1:]:
        # Held is rising, so only a farther one may take the place of a lesser page.
        if next_ask(page, later) > next_ask(found, later):
            found = page
    return found


def next_ask(page, later):
    """Tell how many asks stand ahead of the next one of page: if it never comes, all of them."""
    if page in later:
        return later.index(page)
    return len(later)
