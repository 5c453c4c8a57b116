"""[7], [8] and [1]: what ratio, paper and shows refuse, with what, and what is refused first."""

import unittest

from cachebet.ratios import paper, ratio, shows
from tests.models import FAR_NUMBERS, OTHER_KINDS, RULES, refused

NO_RULES = ("", "Used", "used ", "lru", "oftener", 0, 1, None, True, False, (), [], ("often",), ["used"], RULES)
NO_SIZES = (0, -1, 7, 8) + FAR_NUMBERS + OTHER_KINDS
GREAT_SIZES = (3, 4, 5, 6)
NO_FIELD_PAGES = (0, -1, 5, 6, 10) + FAR_NUMBERS + OTHER_KINDS
NO_PARTS = (0, -1, 1000, 1001) + FAR_NUMBERS + OTHER_KINDS
# Of two numbers each: one of these beside the other kinds.
NO_RATIOS = OTHER_KINDS + ((1,), (2, 1, 1), [2, 1], "21", 2, 1, 999, 0, ((2, 1),), (2, (1,)), ((2,), 1))
NO_WORTHS = (-1, -2, 1000000001, 1000000002) + FAR_NUMBERS[::3] + OTHER_KINDS
NO_ROWS = ((), (1,), (1, 2, 3), [], [(), 1], "ab", "", 0, 1, None, True, False, ((), 1, 1))
NO_PAPERS = ((), ((), 1), (((), 1),), "", "a", 0, 5, None, True, False)
BOUNDED = ("came", "used", "last", "high", "clock")

# Each call by rule, size and pages, all the rest being right.
WITH_FIELD = (
    ratio,
    lambda rule, size, pages: paper(rule, size, pages, (2, 1)),
    lambda rule, size, pages: shows(rule, size, pages, (2, 1), []),
)
# Each call by rule, size and pages, all the rest being wrong.
WITH_WRONG_REST = (
    lambda rule, size, pages: paper(rule, size, pages, (0, 0)),
    lambda rule, size, pages: paper(rule, size, pages, None),
    lambda rule, size, pages: shows(rule, size, pages, (2, 1000), None),
    lambda rule, size, pages: shows(rule, size, pages, (2, 1), None),
    lambda rule, size, pages: shows(rule, size, pages, (2, 1), [1]),
)


class TestFields(unittest.TestCase):
    def test_rules(self):
        for call in WITH_FIELD:
            for rule in NO_RULES:
                refused(self, "BadRule", call, rule, 2, 3)

    def test_often(self):
        for call in WITH_FIELD:
            for size in (1, 2):
                for pages in (1, 2, 3, 4):
                    refused(self, "BadRule", call, "often", size, pages)

    def test_the_others_are_rules_here(self):
        for call in WITH_FIELD:
            for rule in BOUNDED:
                call(rule, 2, 3)

    def test_what_is_no_size(self):
        for call in WITH_FIELD:
            for rule in RULES:
                for size in NO_SIZES:
                    refused(self, "BadSize", call, rule, size, 3)

    def test_sizes_that_are_too_great_here(self):
        for call in WITH_FIELD:
            for rule in RULES:
                for size in GREAT_SIZES:
                    refused(self, "BadCount", call, rule, size, 3)
            for size in (1, 2):
                call("used", size, 3)

    def test_pages(self):
        for call in WITH_FIELD:
            for rule in RULES:
                for pages in NO_FIELD_PAGES:
                    refused(self, "BadCount", call, rule, 2, pages)
            for pages in (1, 2, 3, 4):
                call("used", 2, pages)


class TestTurns(unittest.TestCase):
    def test_what_is_no_rule_is_refused_first(self):
        for call in WITH_FIELD + WITH_WRONG_REST:
            for size in (2, 0, 3, None):
                for pages in (3, 0, None):
                    refused(self, "BadRule", call, "x", size, pages)

    def test_what_is_no_size_is_refused_ahead_of_counts(self):
        for call in WITH_FIELD + WITH_WRONG_REST:
            for rule in RULES:
                for size in (0, 7, None, True):
                    for pages in (3, 0, 5, None):
                        refused(self, "BadSize", call, rule, size, pages)

    def test_often_is_refused_behind_counts(self):
        for call in WITH_FIELD + WITH_WRONG_REST:
            for size, pages in ((3, 3), (6, 3), (2, 0), (2, 5), (2, None), (3, None)):
                refused(self, "BadCount", call, "often", size, pages)

    def test_often_is_refused_ahead_of_a_ratio_and_a_paper(self):
        for call in WITH_WRONG_REST:
            refused(self, "BadRule", call, "often", 2, 3)

    def test_a_ratio_is_refused_ahead_of_a_paper(self):
        for told in (None, (0, 1), (1, 1000), [2, 1]):
            refused(self, "BadCount", shows, "used", 2, 3, told, None)
            refused(self, "BadCount", shows, "used", 2, 3, told, [((), -1)])

    def test_a_paper_is_refused_though_it_shows_nothing(self):
        refused(self, "BadPaper", shows, "used", 2, 3, (1, 999), [((), 0), ((), -1)])


class TestRatios(unittest.TestCase):
    def test_what_is_no_ratio(self):
        for told in NO_RATIOS:
            if told != (1, 2):
                refused(self, "BadCount", paper, "used", 2, 3, told)
                refused(self, "BadCount", shows, "used", 2, 3, told, [])

    def test_a_part_that_can_not_be(self):
        for part in NO_PARTS:
            for told in ((part, 1), (999, part), (part, part)):
                refused(self, "BadCount", paper, "used", 2, 3, told)
                refused(self, "BadCount", shows, "used", 2, 3, told, [])

    def test_each_part_is_one(self):
        for told in ((1, 1), (1, 999), (999, 1), (999, 999), (2, 4)):
            paper("used", 2, 3, told)
            self.assertIsNone(shows("used", 2, 3, told, []))


class TestPapers(unittest.TestCase):
    def refused_paper(self, some):
        refused(self, "BadPaper", shows, "used", 2, 3, (2, 1), some)

    def test_what_is_no_list(self):
        for some in NO_PAPERS:
            self.refused_paper(some)
        self.refused_paper(tuple(paper("used", 2, 3, (2, 1))))

    def test_a_row_that_can_not_be(self):
        rows = paper("used", 2, 3, (2, 1))
        for row in NO_ROWS:
            for some in ([row], [row] + rows, rows + [row], rows[:3] + [row] + rows[3:]):
                self.refused_paper(some)

    def test_a_worth_that_can_not_be(self):
        rows = paper("used", 2, 3, (2, 1))
        for worth in NO_WORTHS:
            for node in (rows[0][0], (), [], None, "x"):
                self.refused_paper([(node, worth)])
                self.refused_paper(rows + [(node, worth)])
                self.refused_paper([(node, worth)] + rows)

    def test_each_worth_is_one(self):
        rows = paper("used", 2, 3, (2, 1))
        for worth in (0, 1, 999999999, 1000000000):
            for node in ((), [], None, "x", 5, True):
                self.assertEqual(shows("used", 2, 3, (2, 1), rows + [(node, worth)]), rows[0][1])

    def test_a_list_that_is_refused_is_not_changed(self):
        some = [((), 1), ((), -1)]
        self.refused_paper(some)
        self.assertEqual(some, [((), 1), ((), -1)])


class TestNothingChanges(unittest.TestCase):
    def test_behind_refusals_the_same_is_told(self):
        ahead = told_of_all()
        for value in OTHER_KINDS:
            refused(self, "BadSize", ratio, "used", value, 3)
            refused(self, "BadCount", ratio, "used", 2, value)
            refused(self, "BadCount", paper, "used", 2, 3, (value, 1))
            refused(self, "BadPaper", shows, "used", 2, 3, (2, 1), [(value, value)])
        self.assertEqual(told_of_all(), ahead)


def told_of_all():
    rows = paper("clock", 2, 4, (2, 1))
    return [ratio(rule, 2, 4) for rule in BOUNDED], rows, shows("clock", 2, 4, (2, 1), rows)


if __name__ == "__main__":
    unittest.main()
