"""[4] and [1]: what cheapest and farthest tell."""

import inspect
import unittest
from itertools import product

from cachebet import best
from cachebet.best import cheapest, farthest
from tests.models import APART, RULES, least_cost, led_through, made_up, many_streams, run_by_history

ALL_ONE = (1,) * 10
MIXED = ((1, 2, 3, 4, 5, 6, 7, 8, 9, 10), (99, 1, 99, 1, 99, 1, 99, 1, 99, 1), (5, 90, 2, 40, 1, 99, 33, 8, 21, 13))


class TestCheapest(unittest.TestCase):
    def test_kinds_of_values(self):
        for weights in (None, ALL_ONE, MIXED[0]):
            told = cheapest(3, APART, weights=weights)
            self.assertIs(type(told), tuple)
            self.assertEqual([type(part) for part in told], [int, list])

    def test_small_streams(self):
        # With size 2, 1 goes for 2, and nothing else needs to.
        self.assertEqual(cheapest(2, (0, 1, 2, 0, 2)), (3, [None, None, 1, None, None]))
        self.assertEqual(cheapest(1, (0, 1, 1, 0)), (3, [None, 0, None, 1]))
        self.assertEqual(cheapest(3, APART)[0], 7)

    def test_weights_change_what_goes(self):
        stream = (0, 1, 2, 0, 0, 1)
        # 0 comes again first and 1 only later, but 1 is dear: it stays, and 0 comes twice.
        self.assertEqual(cheapest(2, stream, weights=(1, 99) + (1,) * 8), (102, [None, None, 0, 2, None, None]))
        # Were 0 dear, 1 would go, and it would come twice.
        self.assertEqual(cheapest(2, stream, weights=(99, 1) + (1,) * 8)[0], 102)
        self.assertEqual(cheapest(2, stream, weights=(99, 1) + (1,) * 8)[1][2], 1)

    def test_weights_go_by_pages(self):
        for page in range(10):
            weights = tuple(11 + other for other in range(10))
            self.assertEqual(cheapest(1, (page,), weights=weights), (11 + page, [None]))

    def test_none_stands_for_all_one(self):
        for stream in many_streams():
            self.assertEqual(cheapest(2, stream), cheapest(2, stream, weights=None))
            self.assertEqual(cheapest(2, stream)[0], cheapest(2, stream, weights=ALL_ONE)[0])

    def test_as_by_trying_whatever_may_go(self):
        for stream in many_streams():
            for size in range(1, 7):
                for weights in (ALL_ONE,) + MIXED:
                    cost, goes = cheapest(size, stream, weights=weights)
                    self.assertEqual(cost, least_cost(size, stream, weights), (size, stream, weights))
                    self.assertEqual(cost, led_through(self, size, stream, goes, weights), (size, stream, weights))

    def test_all_short_streams(self):
        for long in range(7):
            for stream in product(range(4), repeat=long):
                cost, goes = cheapest(2, stream, weights=MIXED[0])
                self.assertEqual(cost, least_cost(2, stream, MIXED[0]))
                self.assertEqual(cost, led_through(self, 2, stream, goes, MIXED[0]))

    def test_no_ask_at_all(self):
        for size in (1, 6):
            for weights in (None, ALL_ONE, MIXED[0]):
                self.assertEqual(cheapest(size, (), weights=weights), (0, []))

    def test_sixty_asks_and_the_edges_of_weights(self):
        stream = (0, 9) * 30
        self.assertEqual(cheapest(1, stream, weights=(1,) * 10)[0], 60)
        self.assertEqual(cheapest(1, stream, weights=(99,) * 10)[0], 60 * 99)
        self.assertEqual(cheapest(1, stream, weights=(1,) * 9 + (99,))[0], 30 + 30 * 99)
        self.assertEqual(cheapest(1, stream)[1], [None] + [0, 9] * 29 + [0])
        self.assertEqual(cheapest(6, stream), (2, [None] * 60))

    def test_what_was_told_may_be_changed(self):
        for weights in (None, MIXED[2]):
            told = cheapest(3, APART, weights=weights)
            again = cheapest(3, APART, weights=weights)
            told[1].append(0)
            told[1][0] = 5
            self.assertEqual(cheapest(3, APART, weights=weights), again)
            self.assertEqual(led_through(self, 3, APART, again[1], weights or ALL_ONE), again[0])


class TestFarthest(unittest.TestCase):
    def test_kinds_of_values(self):
        told = farthest(3, APART)
        self.assertIs(type(told), tuple)
        self.assertEqual([type(part) for part in told], [int, list])

    def test_lets_go_what_is_asked_farthest(self):
        self.assertEqual(farthest(2, (0, 1, 2, 0, 1)), (4, [None, None, 1, None, 0]))
        self.assertEqual(farthest(2, (0, 1, 2, 1, 0)), (4, [None, None, 0, None, 1]))
        # The next ask counts, not the last one.
        self.assertEqual(farthest(2, (0, 1, 2, 0, 1, 1, 1, 0))[1][2], 1)

    def test_lets_go_what_is_never_asked_ahead_of_all_others(self):
        self.assertEqual(farthest(2, (5, 1, 2, 1)), (3, [None, None, 5, None]))
        self.assertEqual(farthest(3, (0, 1, 2, 3, 0, 2)), (4, [None, None, None, 1, None, None]))
        self.assertEqual(farthest(3, (2, 1, 0, 3, 0, 1))[1][3], 2)

    def test_of_several_the_least_page(self):
        self.assertEqual(farthest(3, (9, 4, 7, 1)), (4, [None, None, None, 4]))
        self.assertEqual(farthest(3, (9, 4, 7, 1, 4)), (4, [None, None, None, 7, None]))
        self.assertEqual(farthest(2, (1, 0, 2, 3, 4)), (5, [None, None, 0, 1, 2]))

    def test_the_stream_that_tells_the_rules_apart(self):
        self.assertEqual(farthest(3, APART), (7, [None] * 7 + [0] + [None] * 2 + [5, 3] + [None] * 2 + [1] + [None] * 5))

    def test_has_as_few_misses_as_cheapest(self):
        for stream in many_streams():
            for size in range(1, 7):
                misses, goes = farthest(size, stream)
                self.assertEqual(misses, led_through(self, size, stream, goes, ALL_ONE))
                self.assertEqual(misses, cheapest(size, stream)[0])
                self.assertEqual(misses, cheapest(size, stream, weights=ALL_ONE)[0])
                self.assertEqual(99 * misses, cheapest(size, stream, weights=(99,) * 10)[0])

    def test_what_goes_by_each_next_ask(self):
        for stream in many_streams():
            for size in (1, 3, 6):
                self.assertEqual(farthest(size, stream)[1], goes_by_next_asks(size, stream))

    def test_no_rule_has_fewer_misses(self):
        for stream in many_streams():
            for rule in RULES:
                self.assertLessEqual(farthest(3, stream)[0], run_by_history(rule, 3, stream)[0])

    def test_no_ask_at_all(self):
        self.assertEqual(farthest(1, ()), (0, []))
        self.assertEqual(farthest(6, ()), (0, []))

    def test_sixty_asks(self):
        self.assertEqual(farthest(1, (0, 9) * 30), (60, [None] + [0, 9] * 29 + [0]))
        self.assertEqual(farthest(6, tuple(range(10)) * 6)[0], least_cost(6, tuple(range(10)) * 6, ALL_ONE))

    def test_what_was_told_may_be_changed(self):
        told = farthest(3, APART)
        again = farthest(3, APART)
        told[1].append(0)
        told[1][0] = 5
        self.assertEqual(farthest(3, APART), again)


def goes_by_next_asks(size, stream):
    """What goes by the farthest next ask: a page that is never asked has its next one at 1000, ranked by page."""
    held, goes = set(), []
    for now, page in enumerate(stream):
        gone = None
        if page not in held and len(held) == size:
            ranks = []
            for kept in held:
                later = [at for at in range(now + 1, len(stream)) if stream[at] == kept]
                ranks.append((-min(later + [1000]), kept))
            gone = min(ranks)[1]
            held.discard(gone)
        held.add(page)
        goes.append(gone)
    return goes


class TestInterface(unittest.TestCase):
    def test_names_of_arguments(self):
        self.assertEqual(str(inspect.signature(cheapest)), "(size, stream, *, weights=None)")
        self.assertEqual(str(inspect.signature(farthest)), "(size, stream)")

    def test_weights_are_handed_in_by_name_alone(self):
        with self.assertRaises(TypeError):
            cheapest(2, (0, 1), ALL_ONE)

    def test_all_are_defined_in_the_file(self):
        for name in ("cheapest", "farthest"):
            self.assertEqual(getattr(best, name).__module__, "cachebet.best")

    def test_asked_by_name_the_same_is_told(self):
        stream = made_up(3, 30, 6)
        self.assertEqual(cheapest(stream=stream, size=3, weights=MIXED[0]), cheapest(3, stream, weights=MIXED[0]))
        self.assertEqual(farthest(stream=stream, size=3), farthest(3, stream))


if __name__ == "__main__":
    unittest.main()
