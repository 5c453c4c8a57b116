"""[3] and [1]: what run, curve and cruel tell."""

import inspect
import unittest
from itertools import product

from cachebet import runs
from cachebet.runs import cruel, curve, run
from tests.models import APART, RULES, made_up, many_streams, run_by_history


class TestRun(unittest.TestCase):
    def test_kinds_of_values(self):
        for rule in RULES:
            told = run(rule, 3, APART)
            self.assertIs(type(told), tuple)
            misses, rows, held = told
            self.assertEqual([type(misses), type(rows), type(held)], [int, list, tuple])
            for row in rows:
                self.assertIs(type(row), tuple)
                was_held, gone = row
                self.assertIs(type(was_held), bool)
                self.assertIn(type(gone), (int, type(None)))

    def test_no_ask_at_all(self):
        for rule in RULES:
            for size in (1, 6):
                self.assertEqual(run(rule, size, ()), (0, [], ()))

    def test_sixty_asks(self):
        for rule in RULES:
            self.assertEqual(len(run(rule, 6, (9,) * 60)[1]), 60)
            self.assertEqual(run(rule, 1, (0, 9) * 30)[0], 60)

    def test_held_is_rising(self):
        for rule in RULES:
            self.assertEqual(run(rule, 6, (9, 0, 5, 3, 7, 1, 9))[2], (0, 1, 3, 5, 7, 9))

    def test_what_was_told_may_be_changed(self):
        for rule in RULES:
            told = run(rule, 2, (0, 1, 2, 0))
            again = run(rule, 2, (0, 1, 2, 0))
            told[1].append((True, None))
            told[1][0] = None
            self.assertEqual(run(rule, 2, (0, 1, 2, 0)), again)
            self.assertEqual(again, run_by_history(rule, 2, (0, 1, 2, 0)))


class TestCurve(unittest.TestCase):
    def test_by_sizes(self):
        self.assertEqual(curve("used", (0, 1, 2, 0, 1, 2, 0, 1, 2), 4), [9, 9, 3, 3])
        self.assertEqual(curve("last", (0, 1, 2, 0, 1, 2, 0, 1, 2), 4), [9, 6, 3, 3])

    def test_more_room_may_miss_more(self):
        # The stream by which "came" is known to miss more with size 4 than with 3.
        self.assertEqual(curve("came", (1, 2, 3, 4, 1, 2, 5, 1, 2, 3, 4, 5), 6), [12, 12, 9, 10, 5, 5])

    def test_each_size_is_as_run_tells(self):
        for stream in many_streams():
            for rule in RULES:
                misses = [run_by_history(rule, size, stream)[0] for size in range(1, 7)]
                for most in range(1, 7):
                    self.assertEqual(curve(rule, stream, most), misses[:most])

    def test_kinds_of_values(self):
        for rule in RULES:
            told = curve(rule, APART, 6)
            self.assertIs(type(told), list)
            self.assertEqual([type(misses) for misses in told], [int] * 6)

    def test_no_ask_at_all(self):
        for rule in RULES:
            self.assertEqual(curve(rule, (), 1), [0])
            self.assertEqual(curve(rule, (), 6), [0] * 6)

    def test_sixty_asks(self):
        for rule in RULES:
            self.assertEqual(curve(rule, (0, 1) * 30, 6), [60, 2, 2, 2, 2, 2])

    def test_what_was_told_may_be_changed(self):
        for rule in RULES:
            told = curve(rule, APART, 3)
            again = curve(rule, APART, 3)
            told.append(0)
            told[0] = None
            self.assertEqual(curve(rule, APART, 3), again)


class TestCruel(unittest.TestCase):
    def test_by_each_rule(self):
        for rule in ("came", "used", "often", "clock"):
            self.assertEqual(cruel(rule, 3, 4, 10), (0, 1, 2, 3, 0, 1, 2, 3, 0, 1))
        for rule in ("last", "high"):
            self.assertEqual(cruel(rule, 3, 4, 10), (0, 1, 2, 3, 2, 3, 2, 3, 2, 3))

    def test_is_the_first_of_all_streams(self):
        for rule in RULES:
            for size, pages, long in ((1, 2, 7), (1, 3, 5), (2, 3, 7), (2, 5, 5), (3, 4, 6)):
                missed = [stream for stream in product(range(pages), repeat=long)
                          if run_by_history(rule, size, stream)[0] == long]
                self.assertEqual(cruel(rule, size, pages, long), missed[0], (rule, size, pages, long))

    def test_misses_throughout(self):
        for rule in RULES:
            for size in range(1, 7):
                for pages in range(size + 1, 11):
                    stream = cruel(rule, size, pages, 60)
                    self.assertIs(type(stream), tuple)
                    self.assertEqual(len(stream), 60)
                    self.assertTrue(all(type(page) is int and 0 <= page < pages for page in stream))
                    self.assertEqual(run_by_history(rule, size, stream)[0], 60)
                    self.assertEqual(stream[:23], cruel(rule, size, pages, 23))

    def test_no_ask_at_all(self):
        for rule in RULES:
            for size, pages in ((1, 2), (1, 10), (6, 7), (6, 10)):
                self.assertEqual(cruel(rule, size, pages, 0), ())

    def test_of_one_ask(self):
        for rule in RULES:
            self.assertEqual(cruel(rule, 6, 7, 1), (0,))

    def test_pages_just_one_more_than_size_and_ten(self):
        for rule in ("came", "used", "often", "clock"):
            self.assertEqual(cruel(rule, 6, 7, 60), tuple(number % 7 for number in range(60)))
            self.assertEqual(cruel(rule, 6, 10, 60), tuple(number % 7 for number in range(60)))
            self.assertEqual(cruel(rule, 1, 2, 60), (0, 1) * 30)
        for rule in ("last", "high"):
            self.assertEqual(cruel(rule, 6, 7, 60), (0, 1, 2, 3, 4) + (5, 6) * 27 + (5,))
            self.assertEqual(cruel(rule, 6, 10, 60), (0, 1, 2, 3, 4) + (5, 6) * 27 + (5,))
            self.assertEqual(cruel(rule, 1, 10, 60), (0, 1) * 30)


class TestInterface(unittest.TestCase):
    def test_names_of_arguments(self):
        self.assertEqual(str(inspect.signature(run)), "(rule, size, stream)")
        self.assertEqual(str(inspect.signature(curve)), "(rule, stream, most)")
        self.assertEqual(str(inspect.signature(cruel)), "(rule, size, pages, long)")

    def test_all_are_defined_in_the_file(self):
        for name in ("run", "curve", "cruel"):
            self.assertEqual(getattr(runs, name).__module__, "cachebet.runs")

    def test_asked_by_name_the_same_is_told(self):
        stream = made_up(3, 30, 6)
        self.assertEqual(run(stream=stream, size=3, rule="used"), run("used", 3, stream))
        self.assertEqual(curve(most=3, stream=stream, rule="used"), curve("used", stream, 3))
        self.assertEqual(cruel(long=9, pages=5, size=3, rule="last"), cruel("last", 3, 5, 9))


if __name__ == "__main__":
    unittest.main()
