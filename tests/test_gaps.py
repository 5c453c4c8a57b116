"""[5] and [1]: what gap tells."""

import inspect
import unittest

from cachebet import gaps
from cachebet.gaps import gap
from tests.models import FAR_NUMBERS, OTHER_KINDS, RULES, least_cost, refused, run_by_history
from tests.node_models import gap_by_all_streams, gap_by_turns

ALL_ONE = (1,) * 10
NO_GAP_SIZES = (0, -1, 7, 8) + FAR_NUMBERS + OTHER_KINDS


def misses_more(rule, size, stream):
    return run_by_history(rule, size, stream)[0] - least_cost(size, stream, ALL_ONE)


class TestGap(unittest.TestCase):
    def test_kinds_of_values(self):
        for rule in RULES:
            told = gap(rule, 2, 3, 7)
            self.assertIs(type(told), tuple)
            most, stream = told
            self.assertIs(type(most), int)
            self.assertIs(type(stream), tuple)
            self.assertEqual([type(page) for page in stream], [int] * 7)

    def test_by_hand(self):
        # 2 lets 1 go, and 1 lets 2 go: each ask from then on is a miss, but for who holds both.
        self.assertEqual(gap("last", 2, 3, 6), (3, (0, 1, 2, 1, 2, 1)))
        self.assertEqual(gap("used", 2, 3, 4), (1, (0, 1, 2, 0)))
        # 0 was asked twice, so it stays by "often" while 1 and 2 let one another go.
        self.assertEqual(gap("often", 2, 3, 6), (2, (0, 0, 1, 2, 1, 2)))
        # The third ask is the first one that may let a page go, and then the best misses it, too.
        self.assertEqual(gap("high", 2, 3, 3), (0, (0, 0, 0)))

    def test_as_by_all_streams(self):
        for rule in RULES:
            for size in (1, 2, 3):
                for pages, longs in ((1, (0, 1, 3)), (2, (0, 1, 4, 8)), (3, (0, 2, 5, 7)), (4, (0, 1, 3, 5, 6))):
                    for long in longs:
                        self.assertEqual(gap(rule, size, pages, long), gap_by_all_streams(rule, size, pages, long),
                                         (rule, size, pages, long))

    def test_up_to_twelve_asks(self):
        for rule in RULES:
            for size in (1, 2, 3):
                for pages in (3, 4):
                    # The marks of "often" make too many nodes for the slower way.
                    for long in (9,) if rule == "often" else (9, 11, 12):
                        self.assertEqual(gap(rule, size, pages, long), gap_by_turns(rule, size, pages, long),
                                         (rule, size, pages, long))
        self.assertEqual(gap("often", 2, 3, 12), gap_by_turns("often", 2, 3, 12))

    def test_the_stream_shows_it(self):
        for rule in RULES:
            for size in (1, 2, 3):
                for long in range(13):
                    most, stream = gap(rule, size, 4, long)
                    self.assertEqual(len(stream), long)
                    self.assertEqual(misses_more(rule, size, stream), most)

    def test_longer_ones_and_more_pages_are_no_less(self):
        for rule in RULES:
            for size in (1, 2, 3):
                told = {(pages, long): gap(rule, size, pages, long)[0] for pages in (1, 2, 3, 4) for long in range(13)}
                for pages, long in told:
                    self.assertGreaterEqual(told[pages, long], told.get((pages - 1, long), 0))
                    self.assertGreaterEqual(told[pages, long], told.get((pages, long - 1), 0))

    def test_pages_no_more_than_size(self):
        for rule in RULES:
            for size, pages in ((1, 1), (2, 1), (2, 2), (3, 1), (3, 2), (3, 3)):
                for long in (0, 1, 12):
                    self.assertEqual(gap(rule, size, pages, long), (0, (0,) * long))

    def test_of_size_one_no_rule_is_worse(self):
        for rule in RULES:
            for pages in (1, 2, 3, 4):
                self.assertEqual(gap(rule, 1, pages, 12), (0, (0,) * 12))

    def test_no_ask_at_all(self):
        for rule in RULES:
            for size in (1, 2, 3):
                for pages in (1, 4):
                    self.assertEqual(gap(rule, size, pages, 0), (0, ()))

    def test_the_same_is_told_again(self):
        for rule in RULES:
            self.assertEqual(gap(rule, 3, 4, 8), gap(rule, 3, 4, 8))


class TestRefusals(unittest.TestCase):
    def test_rules(self):
        for rule in ("", "Used", "used ", "lru", 0, 1, None, True, False, (), [], ("used",), ["used"], RULES):
            refused(self, "BadRule", gap, rule, 2, 3, 4)

    def test_what_is_no_size(self):
        for rule in RULES:
            for size in NO_GAP_SIZES:
                refused(self, "BadSize", gap, rule, size, 3, 4)

    def test_sizes_that_are_too_great_here(self):
        for rule in RULES:
            for size in (4, 5, 6):
                refused(self, "BadCount", gap, rule, size, 3, 4)
            for size in (1, 2, 3):
                gap(rule, size, 3, 4)

    def test_pages(self):
        for pages in (0, -1, 5, 6, 10) + FAR_NUMBERS + OTHER_KINDS:
            refused(self, "BadCount", gap, "used", 2, pages, 4)
        for pages in (1, 2, 3, 4):
            gap("used", 2, pages, 4)

    def test_long(self):
        for long in (-1, -2, 13, 14) + FAR_NUMBERS + OTHER_KINDS:
            refused(self, "BadCount", gap, "used", 2, 3, long)
        for long in range(13):
            gap("used", 2, 3, long)

    def test_what_is_handed_in_first_is_refused_first(self):
        for size in (0, 2, 4, None):
            for pages, long in ((0, 13), (3, 4), (None, None)):
                refused(self, "BadRule", gap, "x", size, pages, long)
        for size in (0, 7, None, True):
            for pages, long in ((0, 13), (3, 13), (5, 4), (None, None)):
                refused(self, "BadSize", gap, "used", size, pages, long)
        refused(self, "BadCount", gap, "used", 4, 0, 13)

    def test_often_is_a_rule_here(self):
        self.assertEqual(gap("often", 2, 3, 6)[0], 2)
        refused(self, "BadSize", gap, "often", 0, 3, 4)
        refused(self, "BadCount", gap, "often", 4, 3, 4)

    def test_behind_refusals_the_same_is_told(self):
        ahead = [gap(rule, 3, 4, 6) for rule in RULES]
        for value in OTHER_KINDS:
            refused(self, "BadSize", gap, "used", value, 3, 4)
            refused(self, "BadCount", gap, "used", 3, value, 4)
            refused(self, "BadCount", gap, "used", 3, 4, value)
        self.assertEqual([gap(rule, 3, 4, 6) for rule in RULES], ahead)


class TestInterface(unittest.TestCase):
    def test_names_of_arguments(self):
        self.assertEqual(str(inspect.signature(gap)), "(rule, size, pages, long)")
        self.assertEqual(gap(long=5, pages=4, size=2, rule="high"), gap("high", 2, 4, 5))

    def test_it_is_defined_in_the_file(self):
        self.assertEqual(gaps.gap.__module__, "cachebet.gaps")


if __name__ == "__main__":
    unittest.main()
