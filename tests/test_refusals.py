"""[1] to [4]: what is refused, with what, and what is refused first."""

import unittest

from cachebet.best import cheapest, farthest
from cachebet.runs import cruel, curve, run
from tests.models import APART, FAR_NUMBERS, OTHER_KINDS, RULES, refused

NO_RULES = ("", "Came", "came ", " came", "cam", "lru", "often,clock", 0, 1, True, False, None, (), [], ("came",),
            ["came"], RULES, list(RULES))
NO_SIZES = (0, 7, -1, 8) + FAR_NUMBERS + OTHER_KINDS
NO_PAGES = (-1, 10, 11) + FAR_NUMBERS + OTHER_KINDS
NO_STREAMS = ([], [0, 1], list(APART), "", "0 1", "01", 0, 1, 5, -1, None, True, False)
# Each call with one stream, as all that take one refuse it alike.
WITH_STREAM = (
    lambda stream: run("used", 3, stream),
    lambda stream: curve("used", stream, 3),
    lambda stream: cheapest(3, stream),
    lambda stream: cheapest(3, stream, weights=(5,) * 10),
    lambda stream: farthest(3, stream),
)
WITH_RULE = (
    lambda rule: run(rule, 3, APART),
    lambda rule: curve(rule, APART, 3),
    lambda rule: cruel(rule, 3, 4, 5),
)
WITH_SIZE = (
    lambda size: run("used", size, APART),
    lambda size: cruel("used", size, 10, 5),
    lambda size: cheapest(size, APART),
    lambda size: farthest(size, APART),
)


class TestRules(unittest.TestCase):
    def test_no_rule(self):
        for call in WITH_RULE:
            for rule in NO_RULES:
                refused(self, "BadRule", call, rule)

    def test_each_rule_is_one(self):
        for call in WITH_RULE:
            for rule in RULES:
                call(rule)


class TestSizes(unittest.TestCase):
    def test_no_size(self):
        for call in WITH_SIZE:
            for size in NO_SIZES:
                refused(self, "BadSize", call, size)

    def test_each_size_is_one(self):
        for call in WITH_SIZE:
            for size in range(1, 7):
                call(size)


class TestStreams(unittest.TestCase):
    def test_no_tuple(self):
        for call in WITH_STREAM:
            for stream in NO_STREAMS:
                self.assertEqual(refused(self, "BadStream", call, stream).number, 0)
            self.assertEqual(refused(self, "BadStream", call, [0] * 61).number, 0)

    def test_a_page_that_can_not_be(self):
        for call in WITH_STREAM:
            for page in NO_PAGES:
                for number, long in ((0, 1), (0, 20), (7, 20), (19, 20), (59, 60)):
                    stream = (0,) * number + (page,) + (9,) * (long - number - 1)
                    error = refused(self, "BadStream", call, stream)
                    self.assertEqual(error.number, number)
                    self.assertIs(type(error.number), int)

    def test_the_first_of_several_is_told(self):
        for call in WITH_STREAM:
            self.assertEqual(refused(self, "BadStream", call, (0, 9, 10, -1, None)).number, 2)
            self.assertEqual(refused(self, "BadStream", call, (0, 9, None, 10)).number, 2)

    def test_a_sixty_first(self):
        for call in WITH_STREAM:
            call((9,) * 60)
            for stream in ((9,) * 61, (9,) * 62, (9,) * 60 + (10,), (9,) * 60 + (None,), (9,) * 61 + (10,), (0,) * 500):
                self.assertEqual(refused(self, "BadStream", call, stream).number, 60)

    def test_a_page_that_can_not_be_ahead_of_a_sixty_first(self):
        for call in WITH_STREAM:
            self.assertEqual(refused(self, "BadStream", call, (9,) * 59 + (10, 0)).number, 59)
            self.assertEqual(refused(self, "BadStream", call, (True,) + (9,) * 60).number, 0)

    def test_each_page_is_one(self):
        for call in WITH_STREAM:
            call(tuple(range(10)))

    def test_no_list_that_is_refused_is_changed(self):
        for call in WITH_STREAM:
            stream = [0, 1, 2]
            refused(self, "BadStream", call, stream)
            self.assertEqual(stream, [0, 1, 2])


class TestCounts(unittest.TestCase):
    def test_most(self):
        for most in (0, 7, -1, 8) + FAR_NUMBERS + OTHER_KINDS:
            refused(self, "BadCount", curve, "used", APART, most)
        for most in range(1, 7):
            self.assertEqual(len(curve("used", APART, most)), most)

    def test_pages(self):
        for size in range(1, 7):
            for pages in (size, size - 1, 0, -1, 11, 12) + FAR_NUMBERS + OTHER_KINDS:
                refused(self, "BadCount", cruel, "used", size, pages, 5)
            for pages in range(size + 1, 11):
                cruel("used", size, pages, 5)

    def test_long(self):
        for long in (-1, -2, 61, 62) + FAR_NUMBERS + OTHER_KINDS:
            refused(self, "BadCount", cruel, "used", 3, 4, long)
        for long in (0, 1, 59, 60):
            self.assertEqual(len(cruel("used", 3, 4, long)), long)


class TestCosts(unittest.TestCase):
    def test_no_weights(self):
        # None stands for equal weights: it is none of the other kinds here.
        others = [value for value in OTHER_KINDS if value is not None]
        for weights in others + [0, 99, [1] * 10, (1,) * 9, (1,) * 11, (1,) * 20, "1111111111", ((1,) * 10,)]:
            refused(self, "BadCosts", cheapest, 3, APART, weights=weights)

    def test_a_weight_that_can_not_be(self):
        for cost in (0, 100, -1, 101) + FAR_NUMBERS + OTHER_KINDS:
            for number in range(10):
                weights = (1,) * number + (cost,) + (99,) * (9 - number)
                refused(self, "BadCosts", cheapest, 3, APART, weights=weights)

    def test_weights_are_refused_though_they_cost_nothing(self):
        refused(self, "BadCosts", cheapest, 3, (), weights=(0,) * 10)
        refused(self, "BadCosts", cheapest, 3, (0, 1), weights=(1,) * 9 + (100,))

    def test_a_list_of_weights_is_not_changed(self):
        weights = [1] * 10
        refused(self, "BadCosts", cheapest, 3, APART, weights=weights)
        self.assertEqual(weights, [1] * 10)


class TestTurns(unittest.TestCase):
    """What is handed in first is refused first."""

    def test_run(self):
        refused(self, "BadRule", run, "x", 0, [])
        refused(self, "BadRule", run, "x", 3, [])
        refused(self, "BadRule", run, "x", 0, APART)
        refused(self, "BadSize", run, "used", 0, [])

    def test_curve(self):
        refused(self, "BadRule", curve, "x", [], 0)
        refused(self, "BadRule", curve, "x", [], 3)
        refused(self, "BadRule", curve, "x", APART, 0)
        refused(self, "BadStream", curve, "used", (10,), 0)

    def test_cruel(self):
        refused(self, "BadRule", cruel, "x", 0, 0, 61)
        refused(self, "BadRule", cruel, "x", 3, 3, 5)
        refused(self, "BadRule", cruel, "x", 3, 4, 61)
        refused(self, "BadSize", cruel, "used", 0, 0, 61)
        refused(self, "BadSize", cruel, "used", 7, 11, 5)
        refused(self, "BadSize", cruel, "used", None, 4, 61)
        refused(self, "BadSize", cruel, "used", "3", None, 5)

    def test_best(self):
        refused(self, "BadSize", cheapest, 0, [], weights=())
        refused(self, "BadSize", cheapest, 7, APART, weights=())
        refused(self, "BadSize", cheapest, 7, [])
        refused(self, "BadStream", cheapest, 3, (10,), weights=())
        refused(self, "BadSize", farthest, 0, [])

    def test_what_stands_behind_the_star_is_refused_last(self):
        refused(self, "BadSize", cheapest, weights=(), size=0, stream=APART)
        refused(self, "BadStream", cheapest, weights=(), size=3, stream=[])


class TestNothingChanges(unittest.TestCase):
    def test_asked_again_behind_refusals_the_same_is_told(self):
        ahead = told_of_all()
        for value in OTHER_KINDS:
            refused(self, "BadStream", run, "used", 3, (value,))
            refused(self, "BadCount", curve, "used", APART, value)
            refused(self, "BadCount", cruel, "used", 3, 4, value)
            refused(self, "BadCosts", cheapest, 3, APART, weights=(value,) * 10)
            refused(self, "BadSize", farthest, value, APART)
        self.assertEqual(told_of_all(), ahead)


def told_of_all():
    return [(run(rule, 3, APART), curve(rule, APART, 6), cruel(rule, 3, 5, 20), cheapest(3, APART), farthest(3, APART))
            for rule in RULES]


if __name__ == "__main__":
    unittest.main()
