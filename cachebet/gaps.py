"""By how many misses a rule may be worse than the best."""

from cachebet.checks import check_count, check_field
from cachebet.nodes import Graph

MOST_GAP_SIZE = 3
MOST_GAP_ASKS = 12


def gap(rule, size, pages, long):
    """Tell (the most misses more than the best in so many asks, the first stream that has so many more)."""
    check_field(rule, size, pages, MOST_GAP_SIZE)
    check_count(long, 0, MOST_GAP_ASKS)
    graph = Graph(rule, size, pages)
    known = {}
    number = 0
    stream = []
    for left in range(long, 0, -1):
        page, number = first_best_ask(graph, known, number, left)
        stream.append(page)
    return most_from(graph, known, 0, long), tuple(stream)


def most_from(graph, known, number, left):
    """Tell the most misses more than the best from a node on, in so many asks that are left."""
    if left == 0:
        return 0
    if (number, left) not in known:
        known[number, left] = max(rows_from(graph, known, number, left))
    return known[number, left]


def rows_from(graph, known, number, left):
    """Tell a list of the same for each page, if that is asked first."""
    return [spent - up + most_from(graph, known, behind, left - 1) for spent, up, behind in graph.steps_from(number)]


def first_best_ask(graph, known, number, left):
    """Tell (page, node behind): the least page that may be asked first for the most misses more."""
    page = rows_from(graph, known, number, left).index(most_from(graph, known, number, left))
    return page, graph.steps_from(number)[page][2]
