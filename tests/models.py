"""Other ways to the same answers, and streams and wrong inputs to try them with."""

from collections import deque
from functools import lru_cache

from cachebet import errors

RULES = ("came", "used", "last", "high", "often", "clock")

# On this stream, with size 3, every rule misses another number of times.
APART = (4, 3, 3, 0, 0, 4, 3, 5, 4, 5, 2, 1, 4, 2, 3, 2, 4, 4, 3, 2)

# Of each other kind that may be handed in where a refusal is told.
OTHER_KINDS = ((), (1,), (1, 2), [], [1], "", "1", "came", None, True, False)

FAR_NUMBERS = (-1000, 1000, 10 ** 30, -10 ** 30)

ERROR_CLASSES = ("BadRule", "BadSize", "BadStream", "BadCosts", "BadCount", "BadPage", "NoRoom", "BadName",
                 "NoPoint", "BadPaper", "BadText")


def made_up(seed, long, pages):
    """A stream that looks mixed, always the same for the same arguments."""
    told = []
    number = seed + 1
    for _ in range(long):
        number = (number * 1103515245 + 12345) % 2 ** 31
        told.append((number >> 16) % pages)
    return tuple(told)


def many_streams():
    return [made_up(seed, long, pages) for seed in range(6) for long in (0, 1, 7, 23, 60) for pages in (1, 3, 5, 8, 10)]


def run_by_history(rule, size, stream):
    """What run tells, but by what was asked when, without any turn of rows."""
    if rule == "clock":
        return run_by_turning(size, stream)
    came, asked, often, rows = {}, {}, {}, []
    for now, page in enumerate(stream):
        gone = None
        was_held = page in came
        if not was_held:
            if len(came) == size:
                gone = {
                    "came": lambda: min(came, key=came.get),
                    "used": lambda: min(came, key=asked.get),
                    "last": lambda: max(came, key=asked.get),
                    "high": lambda: max(came),
                    "often": lambda: min(came, key=lambda kept: (often[kept], came[kept])),
                }[rule]()
                del came[gone]
            came[page] = now
            often[page] = 0
        asked[page] = now
        often[page] += 1
        rows.append((was_held, gone))
    return len([row for row in rows if not row[0]]), rows, tuple(sorted(came))


def run_by_turning(size, stream):
    """What run tells of "clock": the ring is turned till the hand's place is its first."""
    ring, marks, rows = deque(), {}, []
    for page in stream:
        gone = None
        was_held = page in ring
        if not was_held:
            if len(ring) == size:
                while marks[ring[0]]:
                    marks[ring[0]] = False
                    ring.rotate(-1)
                gone = ring.popleft()
            ring.append(page)
        marks[page] = True
        rows.append((was_held, gone))
    return len([row for row in rows if not row[0]]), rows, tuple(sorted(ring))


def least_cost(size, stream, weights):
    """The least that the misses cost, by trying whatever may go."""
    @lru_cache(maxsize=None)
    def cost_from(at, held):
        if at == len(stream):
            return 0
        page = stream[at]
        if page in held:
            return cost_from(at + 1, held)
        if len(held) < size:
            return weights[page] + cost_from(at + 1, held | {page})
        return weights[page] + min(cost_from(at + 1, (held - {gone}) | {page}) for gone in held)
    return cost_from(0, frozenset())


def led_through(test, size, stream, goes, weights):
    """The cost of a stream if that goes which goes tells; the test fails where that can't be."""
    test.assertIs(type(goes), list)
    test.assertEqual(len(goes), len(stream))
    held, cost = set(), 0
    for page, gone in zip(stream, goes):
        if page in held or len(held) < size:
            test.assertIsNone(gone)
        else:
            test.assertIs(type(gone), int)
            test.assertIn(gone, held)
            held.remove(gone)
        if page not in held:
            cost += weights[page]
            held.add(page)
    return cost


def refused(test, name, call, *told, **named):
    """The error of a call that must be refused with the class of that name, and no other."""
    try:
        call(*told, **named)
    except errors.CacheError as error:
        test.assertIs(type(error), getattr(errors, name), (told, named))
        test.assertIsInstance(error, ValueError)
        for other in ERROR_CLASSES:
            test.assertEqual(isinstance(error, getattr(errors, other)), other == name)
        return error
    return test.fail(f"not refused: {told} {named}")
