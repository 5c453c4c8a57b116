"""[2] and what run tells of [3]: what each rule lets go."""

import unittest

from cachebet.runs import run
from tests.models import APART, RULES, many_streams, run_by_history


def goes(rule, size, stream):
    """What goes at each ask that lets something go, without the other asks."""
    return [gone for _, gone in run(rule, size, stream)[1] if gone is not None]


class TestEachRule(unittest.TestCase):
    def test_came_lets_go_what_came_first_though_it_was_asked_again(self):
        self.assertEqual(run("came", 2, (0, 1, 0, 2, 3)), (
            4, [(False, None), (False, None), (True, None), (False, 0), (False, 1)], (2, 3)))

    def test_came_counts_from_the_last_coming(self):
        # 0 comes, goes and comes again: then 1 and 2 came ahead of it.
        self.assertEqual(goes("came", 3, (0, 1, 2, 3, 0, 4, 5, 6)), [0, 1, 2, 3, 0])

    def test_used_lets_go_what_was_asked_farthest_ago(self):
        self.assertEqual(run("used", 2, (0, 1, 0, 2, 3)), (
            4, [(False, None), (False, None), (True, None), (False, 1), (False, 0)], (2, 3)))

    def test_last_lets_go_what_was_asked_last(self):
        self.assertEqual(run("last", 2, (0, 1, 0, 2, 3)), (
            4, [(False, None), (False, None), (True, None), (False, 0), (False, 2)], (1, 3)))

    def test_high_lets_go_the_greatest_that_is_held(self):
        self.assertEqual(run("high", 2, (5, 1, 9, 3, 1)), (
            4, [(False, None), (False, None), (False, 5), (False, 9), (True, None)], (1, 3)))

    def test_often_lets_go_what_was_asked_least_often(self):
        self.assertEqual(goes("often", 3, (7, 7, 8, 9, 9, 7, 1)), [8])

    def test_often_of_several_lets_go_what_came_first(self):
        # 2 and 1 were asked once each: 2 came first, though it is greater.
        self.assertEqual(goes("often", 3, (2, 0, 1, 0, 5)), [2])
        # 2 and 1 were asked twice each, 2 last of all: it still came first.
        self.assertEqual(goes("often", 2, (2, 1, 1, 2, 5)), [2])

    def test_often_counts_anew_when_a_page_comes_again(self):
        # 0 was asked three times till it went; when it comes again it is at one.
        self.assertEqual(goes("often", 2, (0, 0, 0, 1, 1, 1, 1, 2, 2, 0, 3)), [0, 2, 0])

    def test_clock_goes_round_when_all_marks_are_set(self):
        # The marks of 0, 1 and 2 are taken away in turn, and the hand is at 0 again.
        self.assertEqual(run("clock", 3, (0, 1, 2, 3)), (
            4, [(False, None), (False, None), (False, None), (False, 0)], (1, 2, 3)))

    def test_clock_passes_marks_and_goes_round(self):
        # Behind 3 the ring is 3* 1 2, the hand at 1; 1 is marked; 4 passes it and
        # takes the place of 2; 5 passes 3, and takes that of 1; 0 passes 4, and
        # takes that of 3.
        self.assertEqual(run("clock", 3, (0, 1, 2, 3, 1, 4, 5, 0)), (
            7, [(False, None), (False, None), (False, None), (False, 0), (True, None), (False, 2), (False, 1),
                (False, 3)], (0, 4, 5)))

    def test_clock_lets_all_go_round_once_all_are_marked_again(self):
        # Behind 3 the ring is 3* 1 2, the hand at 1; then all three are marked,
        # so the hand goes once round, and is at 1 again.
        self.assertEqual(goes("clock", 3, (0, 1, 2, 3, 1, 2, 4)), [0, 1])

    def test_clock_marks_what_comes(self):
        # Behind 2 the ring is 2* 1, the hand at 1; 3 takes its place, and both are
        # marked, so 4 takes the place of 2, at which the hand is again.
        self.assertEqual(goes("clock", 2, (0, 1, 2, 3, 4)), [0, 1, 2])

    def test_clock_gives_the_place_in_the_ring_to_what_comes(self):
        # The ring is 3* 1* 2 behind the second 1, 3* 1 4* behind 4 (the hand at 3),
        # and 3 5* 4* behind 5, the hand at 4: so 4 is passed, and 3 goes for 2. Then
        # the ring is 2* 5* 4, the hand at 5: it is passed, 4 goes for 1, and 2 is
        # passed, 5 goes for 3.
        self.assertEqual(goes("clock", 3, (0, 1, 2, 3, 1, 4, 5, 2, 1, 3)), [0, 2, 1, 3, 4, 5])


class TestAllRules(unittest.TestCase):
    def test_the_rules_tell_apart(self):
        misses = {rule: run(rule, 3, APART)[0] for rule in RULES}
        self.assertEqual(misses, {"came": 10, "used": 8, "last": 12, "high": 15, "often": 11, "clock": 9})

    def test_what_goes_on_a_stream_that_tells_them_apart(self):
        self.assertEqual(goes("came", 3, APART), [4, 3, 0, 5, 4, 2, 1])
        self.assertEqual(goes("used", 3, APART), [0, 3, 4, 5, 1])
        self.assertEqual(goes("last", 3, APART), [3, 5, 2, 4, 2, 3, 2, 4, 3])
        self.assertEqual(goes("high", 3, APART), [4, 5, 4, 5, 3, 2, 4, 2, 3, 2, 4, 3])
        self.assertEqual(goes("often", 3, APART), [4, 5, 4, 5, 2, 1, 4, 0])
        self.assertEqual(goes("clock", 3, APART), [4, 3, 0, 5, 4, 1])

    def test_all_rules_as_by_history(self):
        for stream in many_streams():
            for rule in RULES:
                for size in (1, 2, 3, 4, 5, 6):
                    self.assertEqual(run(rule, size, stream), run_by_history(rule, size, stream), (rule, size, stream))

    def test_nothing_goes_while_there_is_room(self):
        for rule in RULES:
            self.assertEqual(run(rule, 6, (5, 4, 3, 2, 1, 0, 5, 0)), (
                6, [(False, None)] * 6 + [(True, None)] * 2, (0, 1, 2, 3, 4, 5)))

    def test_size_one_holds_what_was_asked_last(self):
        for rule in RULES:
            self.assertEqual(run(rule, 1, (9, 0, 0, 9)), (
                3, [(False, None), (False, 9), (True, None), (False, 0)], (9,)))


if __name__ == "__main__":
    unittest.main()
