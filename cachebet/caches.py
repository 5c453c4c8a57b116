"""A cache that is asked step by step, with pages that must stay, and resized."""

from cachebet.checks import check_name, check_page, check_rule, check_size
from cachebet.errors import BadPage, NoPoint, NoRoom
from cachebet.rules import EMPTY, let_go, pages_held, place_of, step, without


class Cache:
    """A cache of a rule and a size, nothing held at first."""

    def __init__(self, rule, size):
        check_rule(rule)
        check_size(size)
        self.rule = rule
        self.size = size
        self.state = EMPTY
        # The pages that must stay, rising; all of them are held.
        self.staying = ()
        self.asked = 0
        self.missed = 0
        self.points = {}

    def ask(self, page):
        """Ask a page: tell (whether it was held, what goes or None)."""
        check_page(page)
        rows = self.state[0]
        is_held = place_of(rows, page) is not None
        if not is_held and len(rows) == self.size and len(self.staying) == self.size:
            raise NoRoom("one must go, and all that are held must stay")
        was_held, gone, self.state = step(self.rule, self.size, self.state, page, self.staying)
        self.asked += 1
        if not was_held:
            self.missed += 1
        return was_held, gone

    def pin(self, page):
        """Let a page that is held stay."""
        self._held_place(page)
        if page not in self.staying:
            self.staying = tuple(sorted(self.staying + (page,)))

    def unpin(self, page):
        """Tell whether a page that is held had to stay: it hasn't to any more."""
        self._held_place(page)
        had_to = page in self.staying
        self._set_free(page)
        return had_to

    def drop(self, page):
        """Take out a page that is held, though it must stay."""
        place = self._held_place(page)
        self.state = without(self.state, place)
        self._set_free(page)

    def resize(self, size):
        """Take another size: tell a list of what goes for it, one behind the other."""
        check_size(size)
        if len(self.staying) > size:
            raise NoRoom("more must stay than there will be room for")
        self.size = size
        goes = []
        while len(self.state[0]) > size:
            gone, self.state = let_go(self.rule, self.state, self.staying)
            goes.append(gone)
        return goes

    def holds(self):
        """Tell the pages that are held, rising."""
        return pages_held(self.state)

    def order(self):
        """Tell the pages that are held, in the turn of their rows."""
        return tuple([row[0] for row in self.state[0]])

    def pins(self):
        """Tell a list of the pages that must stay, rising."""
        return list(self.staying)

    def counts(self):
        """Tell (asks, misses), without asks that were refused."""
        return self.asked, self.missed

    def mark(self, name):
        """Name all as it stands now."""
        check_name(name)
        self.points[name] = (self.size, self.state, self.staying, self.asked, self.missed)

    def go(self, name):
        """Make all as it stood when it was named, but for the names themselves."""
        if not isinstance(name, str) or name not in self.points:
            raise NoPoint("nothing is marked so")
        self.size, self.state, self.staying, self.asked, self.missed = self.points[name]

    def marks(self):
        """Tell a list of the names, rising."""
        return sorted(self.points)

    def _held_place(self, page):
        """Tell the place of a page that is held, and refuse what is none."""
        check_page(page)
        place = place_of(self.state[0], page)
        if place is None:
            raise BadPage("this page isn't held")
        return place

    def _set_free(self, page):
        """Let a page stay no more."""
        self.staying = tuple([other for other in self.staying if other != page])
