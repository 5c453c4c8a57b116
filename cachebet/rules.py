"""What the rules do at an ask.

A state is (rows, hand). Rows is a tuple of (page, mark) of what is held: by
"used" and "last" in the turn of their last asks, by "clock" in the turn of the
ring, else in the turn in which they came. A mark is 0, but by "often" how often
the page was asked since it came, and by "clock" 1 or 0. The hand is the place
in rows at which the hand of "clock" stands, and 0 by the other rules.

Where something must go, stay is a tuple of the pages that must not: the rules
look at the others alone, and there must be another one.
"""

RULES = ("came", "used", "last", "high", "often", "clock")
EMPTY = ((), 0)


def step(rule, size, state, page, stay=()):
    """Tell (whether page was held, what goes or None, the state behind the ask)."""
    rows, hand = state
    place = place_of(rows, page)
    if place is not None:
        return True, None, (rows_asked(rule, rows, place), hand)
    comer = (page, first_mark(rule))
    if len(rows) < size:
        return False, None, (rows + (comer,), hand)
    rows, hand, place = searched(rule, state, stay)
    if rule == "clock":
        behind = (rows[:place] + (comer,) + rows[place + 1:], (place + 1) % len(rows))
    else:
        behind = (rows[:place] + rows[place + 1:] + (comer,), hand)
    return False, rows[place][0], behind


def let_go(rule, state, stay):
    """Tell (what goes, the state behind), if one goes and none comes for it."""
    rows, hand, place = searched(rule, state, stay)
    return rows[place][0], without((rows, hand), place)


def without(state, place):
    """Tell the state without the row at place: those behind it close up."""
    rows, hand = state
    left = rows[:place] + rows[place + 1:]
    if place < hand:
        hand -= 1
    # The hand's own page was the last of the ring: the next one is the first.
    if hand == len(left):
        hand = 0
    return left, hand


def pages_held(state):
    """Tell the pages that are held in a state, rising."""
    return tuple(sorted([row[0] for row in state[0]]))


def place_of(rows, page):
    """Tell the place of a page in rows, or None."""
    for place, row in enumerate(rows):
        if row[0] == page:
            return place
    return None


def first_mark(rule):
    """Tell the mark of a page that comes: its coming counts as an ask of it."""
    if rule == "often" or rule == "clock":
        return 1
    return 0


def rows_asked(rule, rows, place):
    """Tell the rows behind an ask of the page at place, which is held."""
    page, mark = rows[place]
    if rule == "used" or rule == "last":
        return rows[:place] + rows[place + 1:] + ((page, mark),)
    if rule == "often":
        return rows[:place] + ((page, mark + 1),) + rows[place + 1:]
    if rule == "clock":
        return rows[:place] + ((page, 1),) + rows[place + 1:]
    return rows


def searched(rule, state, stay):
    """Tell (rows, hand, place): the place of what goes, and the state once the rule has found it."""
    rows, hand = state
    if rule == "clock":
        rows, hand = swept(rows, hand, stay)
        return rows, hand, hand
    return rows, hand, place_to_go(rule, rows, stay)


def place_to_go(rule, rows, stay):
    """Tell the place of what goes, by any rule but "clock"."""
    places = [place for place, row in enumerate(rows) if row[0] not in stay]
    if rule == "last":
        return places[-1]
    if rule == "high":
        return max([(rows[place][0], place) for place in places])[1]
    if rule == "often":
        # The first of several is the one that came first: rows stand as they came.
        return min([(rows[place][1], place) for place in places])[1]
    return places[0]


def swept(rows, hand, stay):
    """Lead the hand of "clock" to a page without a mark: tell the rows then, and its place."""
    left = list(rows)
    while left[hand][1] or left[hand][0] in stay:
        if left[hand][0] not in stay:
            left[hand] = (left[hand][0], 0)
        hand = (hand + 1) % len(left)
    return tuple(left), hand
