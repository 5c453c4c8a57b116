"""[6], [7], [8] and [1]: nodes, ratio, paper and shows."""

import inspect
import unittest
from math import gcd
from unittest import mock

from cachebet import ratios
from cachebet.ratios import paper, ratio, shows
from tests.models import made_up
from tests.node_models import FIRST_NODE, model_graph, model_paper, nodes_along

BOUNDED = ("came", "used", "last", "high", "clock")
FIELDS = [(rule, size, pages) for rule in BOUNDED for size in (1, 2) for pages in (1, 2, 3, 4)]
# A ratio that no rule with a ratio is above.
AMPLE = (999, 1)


def ratio_or_ample(field):
    told = ratio(*field)[0]
    return AMPLE if told is None else told


class TestNodes(unittest.TestCase):
    """The nodes of [6], as paper tells them."""

    def test_ahead_of_all_asks(self):
        for field in FIELDS:
            told = paper(*field, AMPLE)
            if told is not None:
                self.assertEqual(told[0][0], ((((), 0)), (((), 0),)))

    def test_of_one_page(self):
        first, hold = (((), 0), (((), 0),)), (((0,), 0),)
        for rule in ("came", "used", "last", "high"):
            self.assertEqual([node for node, _ in paper(rule, 2, 1, (1, 1))], [first, ((((0, 0),), 0), hold)])
        self.assertEqual([node for node, _ in paper("clock", 2, 1, (1, 1))], [first, ((((0, 1),), 0), hold)])

    def test_of_one_way_and_two_pages(self):
        nodes = [(((), 0), (((), 0),)), ((((0, 1),), 0), (((0,), 0),)), ((((1, 1),), 0), (((1,), 0),))]
        self.assertEqual([node for node, _ in paper("clock", 1, 2, (1, 1))], nodes)

    def test_rows_stand_as_they_came_or_as_they_were_asked(self):
        # Behind 0, 1, 2, 0, 2: "came" let 0 go for 2 and 1 for 0, and then 2 was asked again.
        both = (((0, 2), 0),)
        came, used = ((((2, 0), (0, 0)), 0), both), ((((0, 0), (2, 0)), 0), both)
        self.assertEqual(nodes_along("came", 2, (0, 1, 2, 0, 2))[-1][0], came)
        self.assertEqual(nodes_along("used", 2, (0, 1, 2, 0, 2))[-1][0], used)
        for rule, node in (("came", came), ("used", used)):
            self.assertIn(node, [told for told, _ in paper(rule, 2, 3, AMPLE)])
        for rule in ("came", "used", "last", "high"):
            nodes = [told for told, _ in paper(rule, 2, 2, AMPLE)]
            self.assertIn(((((0, 0), (1, 0)), 0), (((0, 1), 0),)), nodes)
            self.assertIn(((((1, 0), (0, 0)), 0), (((0, 1), 0),)), nodes)

    def test_marks_and_hand_of_the_clock(self):
        # Behind 0, 1, 2 the ring is 2* 1, the hand at 1, and who knows all holds 0 or 1 beside 2.
        nodes = [node for node, _ in paper("clock", 2, 3, AMPLE)]
        self.assertIn(((((2, 1), (1, 0)), 1), (((0, 2), 0), ((1, 2), 0))), nodes)
        # Behind 0, 1, 2, 1 it had to hold 1: 0 and 1 would have been a miss more than 1 and 2.
        self.assertIn(((((2, 1), (1, 1)), 1), (((1, 2), 0),)), nodes)

    def test_all_nodes_are_told(self):
        for field in FIELDS:
            told = paper(*field, ratio_or_ample(field))
            if told is not None:
                self.assertEqual([node for node, _ in told], sorted(model_graph(*field)), field)

    def test_nodes_along_streams_are_told(self):
        for field in FIELDS:
            rule, size, pages = field
            told = paper(*field, AMPLE)
            if told is not None:
                nodes = [node for node, _ in told]
                for seed in range(4):
                    for node, _, _ in nodes_along(rule, size, made_up(seed, 25, pages)):
                        self.assertIn(node, nodes)


class TestRatio(unittest.TestCase):
    def test_kinds_of_values(self):
        for field in FIELDS:
            told = ratio(*field)
            self.assertIs(type(told), tuple)
            self.assertEqual(len(told), 3)
            found, way, lap = told
            self.assertIn(type(found), (tuple, type(None)))
            for stream in (way, lap):
                self.assertIs(type(stream), tuple)
                self.assertTrue(all(type(page) is int and 0 <= page < field[2] for page in stream))
            if found is not None:
                self.assertEqual([type(part) for part in found], [int, int])

    def test_which_ratios(self):
        # The rules that are known to miss as many times as much as the ways are, and those that have no ratio.
        for pages in (3, 4):
            for rule in ("came", "used", "clock"):
                self.assertEqual(ratio(rule, 2, pages)[0], (2, 1))
            for rule in ("last", "high"):
                self.assertIsNone(ratio(rule, 2, pages)[0])
        for rule in BOUNDED:
            for pages in (1, 2, 3, 4):
                self.assertEqual(ratio(rule, 1, pages)[0], (1, 1))

    def test_nothing_is_shown_where_nothing_goes(self):
        for rule in BOUNDED:
            for size, pages in ((1, 1), (2, 1), (2, 2)):
                self.assertEqual(ratio(rule, size, pages), ((1, 1), (), ()))

    def test_way_and_round_led_through_node_by_node(self):
        for field in FIELDS:
            rule, size, pages = field
            found, way, lap = ratio(*field)
            if pages <= size:
                continue
            self.assertGreaterEqual(len(lap), 1)
            # Beyond the first round each other one must cost both the same.
            for turns in (1, 2, 5):
                rows = nodes_along(rule, size, way + lap * turns)
                node, misses, least = rows[len(way)]
                self.assertEqual(rows[-1][0], node)
                spent, up = rows[-1][1] - misses, rows[-1][2] - least
                self.assertGreaterEqual(spent, 1)
                self.assertEqual(up == 0, found is None)
                if found is not None:
                    self.assertEqual(found, (spent // gcd(spent, up), up // gcd(spent, up)))

    def test_no_round_is_worse(self):
        # By a ratio that is a little less there's no end to the worths, and by this one there is.
        for field in FIELDS:
            found = ratio(*field)[0]
            if found is None:
                self.assertIsNone(model_paper(*field, 999, 1), field)
                continue
            self.assertIsNotNone(model_paper(*field, *found), field)
            self.assertGreaterEqual(found[0], found[1])
            self.assertEqual(gcd(*found), 1)
            if field[2] > field[1]:
                self.assertIsNone(model_paper(*field, 99 * found[0] - 1, 99 * found[1]), field)

    def test_a_first_round_of_a_lesser_ratio_is_left_for_a_better_one(self):
        # What is found doesn't hang on the round from which it is looked for: these have a ratio of 1 each.
        for rule in ("came", "used", "last", "high", "clock"):
            for pages in (3, 4):
                lap = lap_of_equal_misses(rule, 2, pages)
                with mock.patch.object(ratios, "lap_of_misses", return_value=lap) as looked:
                    found, way, asks = ratio(rule, 2, pages)
                looked.assert_called_once()
                self.assertEqual(found, ratio(rule, 2, pages)[0])
                self.assertNotEqual(asks, lap[1])
                rows = nodes_along(rule, 2, way + asks)
                self.assertEqual(rows[-1][0], rows[len(way)][0])
                spent, up = rows[-1][1] - rows[len(way)][1], rows[-1][2] - rows[len(way)][2]
                self.assertEqual((spent, up) if found is None else found[1] * spent,
                                 (spent, 0) if found is None else found[0] * up)

    def test_the_same_is_told_again(self):
        for field in FIELDS:
            self.assertEqual(ratio(*field), ratio(*field))


def lap_of_equal_misses(rule, size, pages):
    """A lap, as the program numbers its nodes, on which the rule and the best miss as often, and once at least."""
    graph = ratios.whole_graph(rule, size, pages)
    for seed in range(1000):
        stream = made_up(seed, 40, pages)
        rows = nodes_along(rule, size, stream)
        for start in range(len(rows)):
            for end in range(start + 1, len(rows)):
                spent, up = rows[end][1] - rows[start][1], rows[end][2] - rows[start][2]
                if rows[end][0] == rows[start][0] and spent == up > 0:
                    return graph.numbers[rows[start][0]], stream[start:end]
    raise AssertionError("none was found")


class TestPaper(unittest.TestCase):
    def test_kinds_of_values(self):
        for field in FIELDS:
            told = paper(*field, (2, 1))
            if told is not None:
                self.assertIs(type(told), list)
                for row in told:
                    self.assertIs(type(row), tuple)
                    self.assertEqual([type(part) for part in row], [tuple, int])

    def test_by_hand(self):
        behind = ((((0, 0),), 0), (((0,), 0),))
        # Each miss is one of the best's, too: by a ratio of 1 nothing is above it.
        self.assertEqual(paper("used", 1, 1, (1, 1)), [(FIRST_NODE, 0), (behind, 0)])
        self.assertEqual(paper("used", 1, 1, (3, 1)), [(FIRST_NODE, 0), (behind, 0)])
        # By 1 to 3 the first miss is worth three less one, and there is no other one.
        self.assertEqual(paper("used", 1, 1, (1, 3)), [(FIRST_NODE, 2), (behind, 0)])
        # With two pages there may always be another one.
        self.assertIsNone(paper("used", 1, 2, (1, 3)))
        self.assertEqual([worth for _, worth in paper("used", 1, 2, (1, 1))], [0, 0, 0])

    def test_worths_as_by_another_way(self):
        for field in FIELDS:
            for told in (ratio_or_ample(field), (1, 1), (2, 1), (1, 2), (3, 2), (199, 100), (201, 100), (4, 2), (5, 7),
                         (999, 1), (1, 999), (999, 999), (998, 499), (997, 499), (999, 499)):
                worths = model_paper(*field, *told)
                rows = None if worths is None else sorted(worths.items())
                self.assertEqual(paper(*field, told), rows, (field, told))

    def test_of_a_lesser_ratio_none(self):
        for field in FIELDS:
            found = ratio(*field)[0]
            if field[2] > field[1] and found is not None:
                self.assertIsNotNone(paper(*field, found))
                self.assertIsNone(paper(*field, (99 * found[0] - 1, 99 * found[1])))
                self.assertIsNone(paper(*field, (1, 999)))
            if found is None:
                for told in ((1, 1), (2, 1), (999, 1), (999, 999)):
                    self.assertIsNone(paper(*field, told))

    def test_there_is_a_worth_without_a_ratio_where_nothing_goes(self):
        # Two pages come, and each is worth the most by a ratio that is as little as can be.
        for rule in BOUNDED:
            self.assertEqual(paper(rule, 2, 2, (1, 999))[0], (FIRST_NODE, 2 * 998))

    def test_what_was_told_may_be_changed(self):
        for field in FIELDS:
            told = paper(*field, (2, 1))
            again = paper(*field, (2, 1))
            if told is not None:
                told.append(told[0])
                told[0] = None
                self.assertEqual(paper(*field, (2, 1)), again)


class TestShows(unittest.TestCase):
    def each_paper(self):
        for field in FIELDS:
            for told in (ratio_or_ample(field), (3, 1), (5, 4)):
                rows = paper(*field, told)
                if rows is not None:
                    yield field, told, rows

    def test_a_paper_is_shown(self):
        for field, told, rows in self.each_paper():
            worth = shows(*field, told, rows)
            self.assertIs(type(worth), int)
            self.assertEqual(worth, model_paper(*field, *told)[FIRST_NODE])

    def test_in_another_turn(self):
        for field, told, rows in self.each_paper():
            self.assertEqual(shows(*field, told, rows[::-1]), rows[0][1])
            self.assertEqual(shows(*field, told, rows[3:] + rows[:3]), rows[0][1])

    def test_all_worths_a_little_more(self):
        for field, told, rows in self.each_paper():
            self.assertEqual(shows(*field, told, [(node, worth + 7) for node, worth in rows]), rows[0][1] + 7)

    def test_by_each_ask_as_the_words_say(self):
        for field, told, rows in self.each_paper():
            for at in range(0, len(rows), 1 + len(rows) // 20):
                for other in (rows[at][1] + 1, rows[at][1] + 3, rows[at][1] - 1, 0):
                    if other >= 0:
                        changed = rows[:at] + [(rows[at][0], other)] + rows[at + 1:]
                        self.assertEqual(shows(*field, told, changed), shown_by_words(field, told, changed))

    def test_the_first_node_may_be_worth_more(self):
        for field, told, rows in self.each_paper():
            self.assertEqual(shows(*field, told, [(FIRST_NODE, rows[0][1] + 5)] + rows[1:]), rows[0][1] + 5)

    def test_a_worth_a_little_less(self):
        # The first miss is worth three less one, no less.
        rows = paper("used", 1, 1, (1, 3))
        self.assertEqual(shows("used", 1, 1, (1, 3), rows), 2)
        self.assertIsNone(shows("used", 1, 1, (1, 3), [(rows[0][0], 1), rows[1]]))
        self.assertEqual(shows("used", 1, 1, (1, 3), [(rows[0][0], 3), rows[1]]), 3)
        self.assertIsNone(shows("used", 1, 1, (1, 3), [rows[0], (rows[1][0], 1)]))

    def test_a_lesser_ratio_is_not_shown(self):
        rows = paper("used", 2, 3, (2, 1))
        self.assertEqual(shows("used", 2, 3, (2, 1), rows), 0)
        self.assertIsNone(shows("used", 2, 3, (199, 100), rows))
        self.assertEqual(shows("used", 2, 3, (4, 2), [(node, 2 * worth) for node, worth in rows]), 0)
        self.assertIsNone(shows("used", 2, 3, (4, 2), rows))

    def test_rows_left_out(self):
        for field, told, rows in self.each_paper():
            self.assertIsNone(shows(*field, told, []))
            for at in range(0, len(rows), 1 + len(rows) // 20):
                self.assertIsNone(shows(*field, told, rows[:at] + rows[at + 1:]))

    def test_told_several_times_the_last_one_counts(self):
        for field, told, rows in self.each_paper():
            high = [(node, worth + 1000) for node, worth in rows]
            self.assertEqual(shows(*field, told, high + rows), rows[0][1])
            self.assertEqual(shows(*field, told, rows + high), rows[0][1] + 1000)
            self.assertEqual(shows(*field, told, rows + high + rows), rows[0][1])
            self.assertEqual(shows(*field, told, rows + high[:1]), rows[0][1] + 1000)
            self.assertEqual(shows(*field, told, rows + high[:1] + rows[:1]), rows[0][1])
            # The worth of the last one behind is too great for the others.
            self.assertEqual(shows(*field, told, rows + high[-1:]), shown_by_words(field, told, rows + high[-1:]))

    def test_the_greatest_worth(self):
        rows = [(node, 1000000000) for node, _ in paper("used", 1, 3, (1, 1))]
        self.assertEqual(shows("used", 1, 3, (1, 1), rows), 1000000000)

    def test_nodes_that_asks_do_not_lead_to_do_not_matter(self):
        beyond = ((((9, 0),), 0), (((9,), 0),))
        with_list = (((), 0), [((), 0)])
        deep = ()
        for _ in range(50):
            deep = (deep,)
        strange = [(node, 5) for node in ((), [], [[1]], None, "", "node", 7, True, (((),),), beyond, with_list, deep,
                                          (FIRST_NODE,), list(FIRST_NODE), FIRST_NODE + (0,))]
        for field, told, rows in self.each_paper():
            self.assertEqual(shows(*field, told, strange + rows), rows[0][1])
            self.assertEqual(shows(*field, told, rows + strange), rows[0][1])
            self.assertIsNone(shows(*field, told, strange + rows[1:]))

    def test_nodes_of_a_greater_field_do_not_matter(self):
        for rule in BOUNDED:
            rows, more = paper(rule, 2, 2, (2, 1)), paper(rule, 2, 3, (2, 1))
            if more is not None:
                self.assertEqual(shows(rule, 2, 2, (2, 1), more + rows), rows[0][1])
                self.assertIsNone(shows(rule, 2, 3, (2, 1), rows))

    def test_a_node_with_a_truth_in_it_is_none(self):
        # To Python True is 1 and False is 0, but here they are no numbers.
        rows = paper("clock", 1, 1, (1, 1))
        self.assertEqual([row[0] for row in rows], [FIRST_NODE, ((((0, 1),), 0), (((0,), 0),))])
        for other in (((((0, True),), 0), (((0,), 0),)), ((((False, 1),), 0), (((0,), 0),)),
                      ((((0, 1),), False), (((0,), 0),)), ((((0, 1),), 0), (((0,), False),)),
                      ((((0, 1),), 0), (((False,), 0),))):
            self.assertIsNone(shows("clock", 1, 1, (1, 1), [rows[0], (other, 0)]))
            self.assertEqual(shows("clock", 1, 1, (1, 1), rows + [(other, 5)]), 0)

    def test_a_node_with_a_list_in_it_is_none(self):
        rows = paper("clock", 1, 1, (1, 1))
        for other in (((([0, 1],), 0), (((0,), 0),)), [(((0, 1),), 0), (((0,), 0),)], ((((0, 1),), 0), [((0,), 0)])):
            self.assertIsNone(shows("clock", 1, 1, (1, 1), [rows[0], (other, 0)]))

    def test_the_list_is_not_changed_nor_kept(self):
        rows = paper("clock", 2, 3, (2, 1))
        handed = list(rows)
        told = shows("clock", 2, 3, (2, 1), handed)
        self.assertEqual(handed, rows)
        handed.clear()
        self.assertEqual(shows("clock", 2, 3, (2, 1), rows), told)


def shown_by_words(field, told, rows):
    worths = dict(rows)
    for node, steps in model_graph(*field).items():
        for spent, up, behind in steps:
            if worths[node] < told[1] * spent - told[0] * up + worths[behind]:
                return None
    return worths[FIRST_NODE]


class TestInterface(unittest.TestCase):
    def test_names_of_arguments(self):
        self.assertEqual(str(inspect.signature(ratio)), "(rule, size, pages)")
        self.assertEqual(str(inspect.signature(paper)), "(rule, size, pages, told)")
        self.assertEqual(str(inspect.signature(shows)), "(rule, size, pages, told, some)")
        rows = paper(told=(2, 1), pages=3, size=2, rule="came")
        self.assertEqual(rows, paper("came", 2, 3, (2, 1)))
        self.assertEqual(shows(some=rows, told=(2, 1), pages=3, size=2, rule="came"), rows[0][1])
        self.assertEqual(ratio(pages=3, size=2, rule="came"), ratio("came", 2, 3))

    def test_all_are_defined_in_the_file(self):
        for name in ("ratio", "paper", "shows"):
            self.assertEqual(getattr(ratios, name).__module__, "cachebet.ratios")


if __name__ == "__main__":
    unittest.main()
