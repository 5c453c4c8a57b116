"""At what ratio a rule may be worse than the best, with rounds that show it and papers that bound it.

A lap is (the number of a node, the asks that lead from it to itself).
"""

from math import gcd

from cachebet.checks import check_field, check_finite_rule, check_paper, check_ratio, is_of_numbers
from cachebet.nodes import Graph

MOST_RATIO_SIZE = 2
NODE_DEPTH = 4


def ratio(rule, size, pages):
    """Tell (ratio, way, round): the least ratio that bounds the rule's misses, or None, and what shows it."""
    check_bounded(rule, size, pages)
    # Nothing goes, so no round has a miss, and any ratio will do.
    if pages <= size:
        return (1, 1), (), ()
    graph = whole_graph(rule, size, pages)
    better = lap_of_misses(graph)
    # A better lap has a greater ratio than the last one, so there is an end to them. If the best
    # misses nothing on a lap, none is better.
    while better is not None:
        lap = better
        spent, up = misses_on(graph, lap)
        better = worths_or_lap(graph, spent, up)[1]
    return shortened(spent, up), graph.ways[lap[0]], lap[1]


def paper(rule, size, pages, told):
    """Tell a rising list of (node, worth) of all nodes by a ratio, or None, if a worth has no end."""
    check_bounded(rule, size, pages)
    check_ratio(told)
    graph = whole_graph(rule, size, pages)
    worths = worths_or_lap(graph, told[0], told[1])[0]
    if worths is None:
        return None
    return sorted([(node, worths[number]) for number, node in enumerate(graph.nodes)])


def shows(rule, size, pages, told, some):
    """Tell the worth of the first node, if a list of (node, worth) bounds the rule by a ratio, else None."""
    check_bounded(rule, size, pages)
    check_ratio(told)
    check_paper(some)
    graph = whole_graph(rule, size, pages)
    worths = worths_told(graph, some)
    if None in worths:
        return None
    top, under = told
    for number, worth in enumerate(worths):
        for spent, up, behind in graph.steps_from(number):
            if worth < under * spent - top * up + worths[behind]:
                return None
    return worths[0]


def check_bounded(rule, size, pages):
    """Refuse what ratio, paper and shows can't be asked of."""
    check_field(rule, size, pages, MOST_RATIO_SIZE)
    check_finite_rule(rule)


def whole_graph(rule, size, pages):
    """Tell the graph of all nodes."""
    graph = Graph(rule, size, pages)
    graph.spread()
    return graph


def shortened(spent, up):
    """Tell a fraction as short as can be, or None, if there is none."""
    if up == 0:
        return None
    both = gcd(spent, up)
    return spent // both, up // both


def lap_of_misses(graph):
    """Tell a lap on which the rule misses at each ask: there must be more pages than size."""
    numbers = [0]
    asks = []
    while numbers[-1] not in numbers[:-1]:
        steps = graph.steps_from(numbers[-1])
        page = [row[0] for row in steps].index(1)
        asks.append(page)
        numbers.append(steps[page][2])
    return numbers[-1], tuple(asks[numbers.index(numbers[-1]):])


def misses_on(graph, lap):
    """Tell (what the rule spends on a lap, by how much the least goes up)."""
    number, asks = lap
    all_spent = 0
    all_up = 0
    for page in asks:
        spent, up, number = graph.steps_from(number)[page]
        all_spent += spent
        all_up += up
    return all_spent, all_up


def worths_or_lap(graph, top, under):
    """Tell (worths, None), the worths by the numbers of nodes, or (None, lap) with a lap that is worth something."""
    worths = [0] * len(graph.nodes)
    choices = [None] * len(graph.nodes)
    while raise_worths(graph, top, under, worths, choices):
        # No node is worth more than its choice and the node behind make it, and one was worth less
        # when the lap was closed: so a lap of choices is worth something, and there is no end to it.
        lap = lap_of_choices(graph, choices)
        if lap is not None:
            return None, lap
    return worths, None


def raise_worths(graph, top, under, worths, choices):
    """Raise each worth that an ask makes greater, with that page as the node's choice: tell whether there was one."""
    raised = False
    # What is come upon last is nearest to the end of a stream, so worths come down quickly.
    for number in range(len(worths) - 1, -1, -1):
        for page, (spent, up, behind) in enumerate(graph.steps_from(number)):
            worth = under * spent - top * up + worths[behind]
            if worth > worths[number]:
                worths[number] = worth
                choices[number] = page
                raised = True
    return raised


def lap_of_choices(graph, choices):
    """Tell a lap of which each ask is the choice of its node, or None."""
    # For each node the one from which a walk came upon it first.
    walks = [None] * len(choices)
    for start in range(len(choices)):
        number = start
        while walks[number] is None:
            walks[number] = start
            if choices[number] is None:
                break
            number = chosen_behind(graph, choices, number)
        if walks[number] == start and choices[number] is not None:
            return lap_from(graph, choices, number)
    return None


def chosen_behind(graph, choices, number):
    """Tell the node behind the choice of a node."""
    return graph.steps_from(number)[choices[number]][2]


def lap_from(graph, choices, start):
    """Tell the lap of choices from a node that stands on one."""
    asks = [choices[start]]
    number = chosen_behind(graph, choices, start)
    while number != start:
        asks.append(choices[number])
        number = chosen_behind(graph, choices, number)
    return start, tuple(asks)


def worths_told(graph, some):
    """Tell the worths that a list of (node, worth) tells, by the numbers of nodes, None where it tells none."""
    worths = [None] * len(graph.nodes)
    for node, worth in some:
        # Of another kind it is no node that asks lead to, and it need not even be a key.
        if is_of_numbers(node, NODE_DEPTH) and node in graph.numbers:
            worths[graph.numbers[node]] = worth
    return worths
