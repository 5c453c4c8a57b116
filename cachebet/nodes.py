"""The nodes: what may stand behind some asks, for a rule and for who knows all.

A node is (state, work). Work is a rising tuple of (held, more): for each rising
tuple of pages that who knows all may hold, by how many misses more than the
least that must have been had; without those that another one makes needless.
"""

from cachebet.best import ways_behind
from cachebet.rules import step

FIRST = (((), 0), (((), 0),))


class Graph:
    """The nodes that asks of pages from 0 on lead to, each by a number, as they are come upon."""

    def __init__(self, rule, size, pages):
        self.rule = rule
        self.size = size
        self.pages = pages
        self.nodes = [FIRST]
        self.numbers = {FIRST: 0}
        # For each node a stream that leads to it.
        self.ways = [()]
        self.steps = {}
        # Many nodes share a work, so what an ask makes of each is kept.
        self.works = {}

    def steps_from(self, number):
        """Tell a list of (what the rule spends, by how much the least goes up, node behind) by pages."""
        if number not in self.steps:
            self.steps[number] = [self.step_from(number, page) for page in range(self.pages)]
        return self.steps[number]

    def step_from(self, number, page):
        """Tell the row of steps_from for one page."""
        state, work = self.nodes[number]
        was_held, _, state_behind = step(self.rule, self.size, state, page)
        if (work, page) not in self.works:
            self.works[work, page] = work_asked(self.size, work, page)
        up, work_behind = self.works[work, page]
        behind = self.number_of((state_behind, work_behind), self.ways[number] + (page,))
        return (0 if was_held else 1), up, behind

    def number_of(self, node, way):
        """Tell the number of a node, to which a way leads: a new one, if it has none."""
        if node not in self.numbers:
            self.numbers[node] = len(self.nodes)
            self.nodes.append(node)
            self.ways.append(way)
        return self.numbers[node]

    def spread(self):
        """Come upon all nodes; there must be an end to them, as there is by all rules but "often"."""
        number = 0
        while number < len(self.nodes):
            self.steps_from(number)
            number += 1


def work_asked(size, work, page):
    """Tell (by how much the least goes up, the work behind an ask of page)."""
    ways = ways_behind({held: (more, held, None) for held, more in work}, size, page, 1)
    misses = {held: way[0] for held, way in ways.items()}
    least = min(misses.values())
    left = [(held, misses[held] - least) for held in misses if not is_needless(held, misses)]
    return least, tuple(sorted(left))


def is_needless(held, misses):
    """Tell whether another one had no more misses, with one more for each page that it lacks of held."""
    for other in misses:
        lacks = len([page for page in held if page not in other])
        if other != held and misses[other] + lacks <= misses[held]:
            return True
    return False
