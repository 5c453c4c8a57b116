"""The refusals: all of them stand right under CacheError, none under another one."""


class CacheError(ValueError):
    """Any refusal."""


class BadRule(CacheError):
    """What was handed in is no rule, or none that fits here."""


class BadSize(CacheError):
    """What was handed in is no size."""


class BadStream(CacheError):
    """What was handed in is no stream; number tells the first place that can't be."""

    def __init__(self, number):
        CacheError.__init__(self, f"this can't be in a stream: number {number}")
        self.number = number


class BadCosts(CacheError):
    """What was handed in are no weights."""


class BadCount(CacheError):
    """What was handed in is no number within its limits."""


class BadPage(CacheError):
    """What was handed in is no page, or none that is held."""


class NoRoom(CacheError):
    """A page must go, and all that are held must stay."""


class BadName(CacheError):
    """What was handed in is no name for a mark."""


class NoPoint(CacheError):
    """Nothing is marked by what was handed in."""


class BadPaper(CacheError):
    """What was handed in is no list of nodes and worths."""


class BadText(CacheError):
    """What was handed in isn't what is written; row tells the first row that can't be."""

    def __init__(self, row):
        CacheError.__init__(self, f"this can't be read: row {row}")
        self.row = row
