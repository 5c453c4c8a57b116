"""A cache of another make: by what was asked when, and the hand of "clock" by the page it's at."""


def twin(now):
    """All as it stands, of which a change doesn't show in now."""
    return {key: value.copy() if isinstance(value, (dict, list, set)) else value for key, value in now.items()}


class ModelRefusal(Exception):
    """What the model refuses, by the name of the error."""


class ModelCache:
    def __init__(self, rule, size):
        self.rule = rule
        self.now = {"size": size, "time": 0, "asks": 0, "misses": 0, "came": {}, "asked": {}, "often": {},
                    "ring": [], "hand": None, "marked": set(), "stay": set()}
        self.named = {}

    def ask(self, page):
        now = self.now
        gone = None
        was_held = page in now["ring"]
        if not was_held and len(now["ring"]) == now["size"]:
            self.refuse_if(now["stay"] == set(now["ring"]), "NoRoom")
            gone = self.chosen()
            place = now["ring"].index(gone)
            if self.rule == "clock":
                now["ring"][place] = page
                now["hand"] = now["ring"][(place + 1) % now["size"]]
            else:
                now["ring"].remove(gone)
                now["ring"].append(page)
        elif not was_held:
            now["ring"].append(page)
            if len(now["ring"]) == 1:
                now["hand"] = page
        now["time"] += 1
        if not was_held:
            now["came"][page] = now["time"]
            now["often"][page] = 0
            now["misses"] += 1
        now["asks"] += 1
        now["asked"][page] = now["time"]
        now["often"][page] += 1
        now["marked"].add(page)
        return was_held, gone

    def chosen(self):
        """What goes by the rule, of those that need not stay."""
        if self.rule == "clock":
            return self.chosen_by_hand()
        now = self.now
        free = [page for page in now["ring"] if page not in now["stay"]]
        return {
            "came": lambda: min(free, key=now["came"].get),
            "used": lambda: min(free, key=now["asked"].get),
            "last": lambda: max(free, key=now["asked"].get),
            "high": lambda: max(free),
            "often": lambda: min(free, key=lambda page: (now["often"][page], now["came"][page])),
        }[self.rule]()

    def chosen_by_hand(self):
        now = self.now
        at = now["ring"].index(now["hand"])
        # Once round there is no mark left, so twice is enough.
        for page in 2 * (now["ring"][at:] + now["ring"][:at]):
            if page not in now["stay"] and page not in now["marked"]:
                now["hand"] = page
                return page
            if page not in now["stay"]:
                now["marked"].discard(page)
        raise AssertionError("all must stay")

    def refuse_if(self, wrong, name):
        if wrong:
            raise ModelRefusal(name)

    def take_out(self, page):
        ring = self.now["ring"]
        if page == self.now["hand"]:
            self.now["hand"] = None if len(ring) == 1 else (ring + ring)[ring.index(page) + 1]
        ring.remove(page)
        self.now["stay"].discard(page)

    def pin(self, page):
        self.refuse_if(page not in self.now["ring"], "BadPage")
        self.now["stay"].add(page)

    def unpin(self, page):
        self.refuse_if(page not in self.now["ring"], "BadPage")
        had_to = page in self.now["stay"]
        self.now["stay"].discard(page)
        return had_to

    def drop(self, page):
        self.refuse_if(page not in self.now["ring"], "BadPage")
        self.take_out(page)

    def resize(self, size):
        before = twin(self.now)
        goes = []
        while len(self.now["ring"]) > size:
            if self.now["stay"] == set(self.now["ring"]):
                self.now = before
                raise ModelRefusal("NoRoom")
            goes.append(self.chosen())
            self.take_out(goes[-1])
        self.now["size"] = size
        return goes

    def mark(self, name):
        self.named[name] = twin(self.now)

    def go(self, name):
        self.refuse_if(name not in self.named, "NoPoint")
        self.now = twin(self.named[name])

    def copied(self):
        other = ModelCache(self.rule, 1)
        other.now = twin(self.now)
        return other

    def holds(self):
        return tuple(sorted(self.now["ring"]))

    def order(self):
        if self.rule == "clock":
            return tuple(self.now["ring"])
        turn = self.now["asked"] if self.rule in ("used", "last") else self.now["came"]
        return tuple(sorted(self.now["ring"], key=turn.get))

    def pins(self):
        return sorted(self.now["stay"])

    def counts(self):
        return self.now["asks"], self.now["misses"]

    def marks(self):
        return sorted(self.named)

    def state(self):
        """The state of [6]."""
        if self.rule == "clock":
            rows = [(page, int(page in self.now["marked"])) for page in self.now["ring"]]
            return tuple(rows), self.now["ring"].index(self.now["hand"]) if rows else 0
        often = self.now["often"] if self.rule == "often" else {}
        return tuple((page, often.get(page, 0)) for page in self.order()), 0
