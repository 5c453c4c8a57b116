"""[6]: the nodes, beyond the sizes and pages of which they are told."""

import unittest

from cachebet.nodes import FIRST, Graph
from tests.models import APART, RULES, made_up
from tests.node_models import FIRST_NODE, nodes_along


def led_through_graph(rule, size, pages, stream):
    """The same as nodes_along tells, by the program's graph."""
    graph = Graph(rule, size, pages)
    number, misses, least = 0, 0, 0
    rows = [(graph.nodes[0], 0, 0)]
    for page in stream:
        spent, up, number = graph.steps_from(number)[page]
        misses += spent
        least += up
        rows.append((graph.nodes[number], misses, least))
    return rows


class TestNodes(unittest.TestCase):
    def test_ahead_of_all_asks(self):
        self.assertEqual(FIRST, FIRST_NODE)
        self.assertEqual(FIRST, ((((), 0)), (((), 0),)))

    def test_along_streams(self):
        for rule in RULES:
            for size in range(1, 7):
                for pages in (1, size, 6, 8):
                    stream = made_up(size, 40, pages)
                    self.assertEqual(led_through_graph(rule, size, pages, stream), nodes_along(rule, size, stream))
            self.assertEqual(led_through_graph(rule, 3, 6, APART), nodes_along(rule, 3, APART))

    def test_marks_of_often(self):
        node = led_through_graph("often", 2, 3, (0, 0, 1, 2))[-1][0]
        self.assertEqual(node, ((((0, 2), (2, 1)), 0), (((0, 2), 0), ((1, 2), 0))))

    def test_what_another_one_makes_needless(self):
        # Behind 0, 1, 2, 3, 0 with size 3: who let 0 go has missed once more than who holds 0, 3 and another one.
        node = led_through_graph("came", 3, 4, (0, 1, 2, 3, 0))[-1][0]
        self.assertEqual(node[1], (((0, 1, 3), 0), ((0, 2, 3), 0)))

    def test_each_node_has_a_way_that_leads_to_it(self):
        for rule in ("came", "used", "last", "high", "clock"):
            graph = Graph(rule, 2, 4)
            graph.spread()
            for number, node in enumerate(graph.nodes):
                self.assertEqual(nodes_along(rule, 2, graph.ways[number])[-1][0], node)


if __name__ == "__main__":
    unittest.main()
