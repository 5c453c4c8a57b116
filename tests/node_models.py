"""Nodes, gaps and worths by other ways: what may be held is led on with next to nothing left out."""

from functools import lru_cache
from itertools import product

from tests.cache_models import ModelCache
from tests.models import run_by_history

NOTHING = {frozenset(): 0}
FIRST_NODE = ((((), 0)), (((), 0),))


def led_on(size, misses, page):
    """The misses of all that may be held behind an ask of page, from those ahead of it."""
    behind = {}
    for held, spent in misses.items():
        if page in held:
            ways = {held: spent}
        elif len(held) < size:
            ways = {held | {page}: spent + 1}
        else:
            ways = {(held - {gone}) | {page}: spent + 1 for gone in held}
        for other, spent_there in ways.items():
            behind[other] = min(spent_there, behind.get(other, spent_there))
    return behind


def led_on_from_least(size, misses, page):
    """(By how much the least goes up, the misses more than the least of all that may be held behind an ask of page).

    What has so many more that nobody would hold it is left out, or there would be no end to the numbers.
    """
    behind = led_on(size, misses, page)
    up = min(behind.values())
    return up, {held: spent - up for held, spent in behind.items() if spent - up <= size + 2}


def work_of(misses):
    """The work of [6], as its words say."""
    least = min(misses.values())
    rows = []
    for held, spent in misses.items():
        others = [other for other in misses if other != held]
        if not any(misses[other] + len(held - other) <= spent for other in others):
            rows.append((tuple(sorted(held)), spent - least))
    return tuple(sorted(rows))


def nodes_along(rule, size, stream):
    """The node ahead of all asks and behind each, with the misses of the rule and the best: (node, misses, least)."""
    cache, misses = ModelCache(rule, size), NOTHING
    rows = [((cache.state(), work_of(misses)), 0, 0)]
    for page in stream:
        cache.ask(page)
        misses = led_on(size, misses, page)
        rows.append(((cache.state(), work_of(misses)), cache.counts()[1], min(misses.values())))
    return rows


@lru_cache(maxsize=None)
def model_graph(rule, size, pages):
    """All nodes: {node: rows of (what the rule spends, by how much the least goes up, node behind) by pages}."""
    graph = {}
    ahead = [(ModelCache(rule, size), NOTHING)]
    seen = set()
    while ahead:
        cache, misses = ahead.pop()
        key = (cache.state(), frozenset(misses.items()))
        if key in seen:
            continue
        seen.add(key)
        rows = []
        for page in range(pages):
            after = cache.copied()
            spent = 0 if after.ask(page)[0] else 1
            up, behind = led_on_from_least(size, misses, page)
            rows.append((spent, up, (after.state(), work_of(behind))))
            ahead.append((after, behind))
        node = (cache.state(), work_of(misses))
        # What is left out of a work must not matter: all that have the node in common go on alike.
        assert graph.setdefault(node, rows) == rows
    return graph


def model_paper(rule, size, pages, top, under):
    """{node: worth}, or None, if a worth has no end: then it grows in each of more turns than there are nodes."""
    graph = model_graph(rule, size, pages)
    worths = {node: 0 for node in graph}
    for _ in range(len(graph) + 1):
        raised = {node: max([0] + [under * spent - top * up + worths[behind] for spent, up, behind in rows])
                  for node, rows in graph.items()}
        if raised == worths:
            return worths
        worths = raised
    return None


def gap_by_all_streams(rule, size, pages, long):
    """What gap tells, by trying all streams of a length."""
    most, first = -1, None
    for stream, least in all_streams(size, pages, long):
        more = run_by_history(rule, size, stream)[0] - least
        if more > most:
            most, first = more, stream
    return most, first


@lru_cache(maxsize=None)
def all_streams(size, pages, long):
    """All streams of a length, as tuples go, with the least misses of each."""
    misses = {(): NOTHING}
    for _ in range(long):
        misses = {stream + (page,): led_on(size, misses[stream], page)
                  for stream, page in product(misses, range(pages))}
    return [(stream, min(misses[stream].values())) for stream in sorted(misses)]


def gap_by_turns(rule, size, pages, long):
    """What gap tells, ask by ask: the best stream for all that may stand behind so many asks, none left out."""
    cache = ModelCache(rule, size)
    ways = {(cache.state(), frozenset(NOTHING.items())): (0, (), cache, NOTHING)}
    for _ in range(long):
        behind = {}
        for more, stream, cache, misses in ways.values():
            for page in range(pages):
                after = cache.copied()
                spent = 0 if after.ask(page)[0] else 1
                up, led = led_on_from_least(size, misses, page)
                key = (after.state(), frozenset(led.items()))
                way = (more + spent - up, stream + (page,), after, led)
                if key not in behind or (-way[0], way[1]) < (-behind[key][0], behind[key][1]):
                    behind[key] = way
        ways = behind
    most, stream = min((-way[0], way[1]) for way in ways.values())
    return -most, stream
