"""[9], [10] and [1]: a Cache, call by call."""

import inspect
import unittest

from cachebet import caches
from cachebet.caches import Cache
from cachebet.errors import CacheError
from cachebet.runs import run
from tests.cache_models import ModelCache, ModelRefusal
from tests.models import APART, FAR_NUMBERS, OTHER_KINDS, RULES, made_up, many_streams, refused

METHODS = {"ask": "(self, page)", "holds": "(self)", "order": "(self)", "counts": "(self)", "pin": "(self, page)",
           "drop": "(self, page)", "mark": "(self, name)", "go": "(self, name)", "unpin": "(self, page)",
           "resize": "(self, size)", "pins": "(self)", "marks": "(self)"}
NAMES = ("a", "b", "z", "abcdefgh", "qq")


def cache_of(rule, size, stream):
    cache = Cache(rule, size)
    for page in stream:
        cache.ask(page)
    return cache


def told_of(cache):
    return cache.holds(), cache.order(), cache.pins(), cache.counts(), cache.marks()


def goes(cache, stream):
    return [gone for _, gone in [cache.ask(page) for page in stream]]


class TestAsk(unittest.TestCase):
    def test_kinds_of_values(self):
        cache = Cache("used", 1)
        for told in (cache.ask(0), cache.ask(0), cache.ask(1)):
            self.assertIs(type(told), tuple)
            self.assertIs(type(told[0]), bool)
        self.assertEqual(told, (False, 0))

    def test_nothing_is_held_at_first(self):
        for rule in RULES:
            for size in (1, 6):
                self.assertEqual(told_of(Cache(rule, size)), ((), (), [], (0, 0), []))

    def test_along_a_stream_it_tells_what_run_tells(self):
        for stream in many_streams():
            for rule in RULES:
                for size in (1, 2, 3, 6):
                    cache = Cache(rule, size)
                    misses, rows, held = run(rule, size, stream)
                    self.assertEqual([cache.ask(page) for page in stream], rows)
                    self.assertEqual(cache.holds(), held)
                    self.assertEqual(cache.counts(), (len(stream), misses))

    def test_more_than_sixty_asks(self):
        cache = cache_of("clock", 3, (0, 1, 2, 3) * 100)
        self.assertEqual(cache.counts(), (400, 400))

    def test_each_rule_looks_at_what_need_not_stay(self):
        # The one that would go must stay, so it's the next one by the rule.
        for rule, stream, stays, gone in (
                ("came", (4, 5, 6), (4,), 5), ("came", (4, 5, 6), (4, 5), 6), ("came", (4, 5, 6), (5,), 4),
                ("used", (4, 5, 6, 4), (5,), 6), ("used", (4, 5, 6, 4), (5, 6), 4),
                ("last", (4, 5, 6, 4), (4,), 6), ("last", (4, 5, 6, 4), (4, 6), 5),
                ("high", (4, 6, 5), (6,), 5), ("high", (4, 6, 5), (6, 5), 4),
                ("often", (4, 4, 5, 6, 6), (5,), 4), ("often", (4, 4, 5, 6, 6), (5, 4), 6),
                ("clock", (4, 5, 6), (4,), 5), ("clock", (4, 5, 6), (4, 5), 6)):
            cache = cache_of(rule, 3, stream)
            for page in stays:
                cache.pin(page)
            self.assertEqual(cache.ask(0), (False, gone), (rule, stream, stays))

    def test_what_must_stay_is_asked_like_others(self):
        cache = cache_of("used", 2, (0, 1))
        cache.pin(0)
        self.assertEqual(cache.ask(0), (True, None))
        self.assertEqual(cache.order(), (1, 0))
        cache.unpin(0)
        # Its asks count while it must stay.
        self.assertEqual(cache.ask(2), (False, 1))

    def test_no_room(self):
        for rule in RULES:
            for size in (1, 2, 3, 6):
                cache = cache_of(rule, size, range(size))
                for page in range(size):
                    cache.pin(page)
                ahead = told_of(cache)
                for _ in range(2):
                    refused(self, "NoRoom", cache.ask, 9)
                    self.assertEqual(told_of(cache), ahead)
                # What is held may be asked, and it is once one hasn't to stay.
                self.assertEqual(cache.ask(0), (True, None))
                self.assertTrue(cache.unpin(size - 1))
                self.assertEqual(cache.ask(9), (False, size - 1))

    def test_there_is_room_though_all_must_stay(self):
        for rule in RULES:
            cache = cache_of(rule, 3, (0, 1))
            cache.pin(0)
            cache.pin(1)
            self.assertEqual(cache.ask(2), (False, None))


class TestClock(unittest.TestCase):
    def test_the_hand_passes_what_must_stay_and_leaves_its_mark(self):
        cache = cache_of("clock", 3, (0, 1, 2))
        cache.pin(1)
        # The hand takes the mark of 0, passes 1, takes that of 2: 0 goes, and the hand is at 1.
        self.assertEqual(cache.ask(3), (False, 0))
        self.assertEqual(cache.order(), (3, 1, 2))
        cache.unpin(1)
        # 1 has its mark yet, and 2 has none.
        self.assertEqual(cache.ask(4), (False, 2))
        self.assertEqual(cache.order(), (3, 1, 4))

    def test_a_mark_that_is_not_there_is_left_so(self):
        cache = cache_of("clock", 3, (0, 1, 2, 3))
        # The ring is 3* 1 2, the hand at 1, which must stay: 2 goes.
        cache.pin(1)
        self.assertEqual(cache.ask(4), (False, 2))
        cache.unpin(1)
        # The ring is 3* 1 4*, the hand at 3: its mark is taken, and 1 has none.
        self.assertEqual(cache.ask(5), (False, 1))
        self.assertEqual(cache.order(), (3, 5, 4))

    def test_drop_ahead_of_the_hand(self):
        # The ring is 3* 1 2, the hand at 1; without 3 it's 1 2, the hand at 1 yet.
        cache = cache_of("clock", 3, (0, 1, 2, 3))
        cache.drop(3)
        self.assertEqual(cache.order(), (1, 2))
        self.assertEqual(goes(cache, (4, 5)), [None, 1])
        self.assertEqual(cache.order(), (5, 2, 4))

    def test_drop_at_the_hand(self):
        # The ring is 3* 1 2, the hand at 1; without 1 it's 3* 2, the hand at 2.
        cache = cache_of("clock", 3, (0, 1, 2, 3))
        cache.drop(1)
        self.assertEqual(cache.order(), (3, 2))
        self.assertEqual(goes(cache, (4, 5)), [None, 2])
        # The ring is 3* 5* 4*, the hand at 4: all marks are taken, and it goes.
        self.assertEqual(cache.order(), (3, 5, 4))
        self.assertEqual(cache.ask(6), (False, 4))

    def test_drop_behind_the_hand(self):
        # The ring is 3* 1 2, the hand at 1; without 2 it's 3* 1, the hand at 1.
        cache = cache_of("clock", 3, (0, 1, 2, 3))
        cache.drop(2)
        self.assertEqual(goes(cache, (4, 5)), [None, 1])
        self.assertEqual(cache.order(), (3, 5, 4))

    def test_drop_the_last_of_the_ring_at_the_hand(self):
        # The ring is 3* 4* 2, the hand at 2; without 2 it's 3* 4*, the hand at 3, though 5 comes at the end.
        cache = cache_of("clock", 3, (0, 1, 2, 3, 4))
        self.assertEqual(cache.order(), (3, 4, 2))
        cache.drop(2)
        self.assertEqual(goes(cache, (5, 6)), [None, 3])
        self.assertEqual(cache.order(), (6, 4, 5))

    def test_drop_all_of_the_ring(self):
        cache = cache_of("clock", 2, (0, 1, 2))
        cache.drop(1)
        cache.drop(2)
        self.assertEqual(cache.order(), ())
        # The hand is at what comes first.
        self.assertEqual(goes(cache, (5, 6, 7, 8)), [None, None, 5, 6])

    def test_resize_leads_the_hand(self):
        # The ring is 3* 1 2 4, the hand at 1: it goes, and then 2.
        cache = cache_of("clock", 4, (5, 1, 2, 4, 3))
        self.assertEqual(cache.order(), (3, 1, 2, 4))
        self.assertEqual(cache.resize(2), [1, 2])
        self.assertEqual(cache.order(), (3, 4))
        # The hand is at 4, without a mark.
        self.assertEqual(cache.ask(6), (False, 4))
        self.assertEqual(cache.order(), (3, 6))

    def test_resize_lets_the_last_of_the_ring_go(self):
        # The ring is 3* 4* 2, the hand at 2, which goes: then the hand is at 3.
        cache = cache_of("clock", 3, (0, 1, 2, 3, 4))
        self.assertEqual(cache.resize(2), [2])
        self.assertEqual(cache.ask(7), (False, 3))
        self.assertEqual(cache.order(), (7, 4))

    def test_what_must_stay_keeps_its_mark_in_a_resize(self):
        cache = cache_of("clock", 4, (0, 1, 2, 3))
        cache.pin(1)
        # 0, 2 and 3 lose their marks, 1 doesn't: 0 goes, and the hand is at 1.
        self.assertEqual(cache.resize(3), [0])
        cache.unpin(1)
        self.assertEqual(cache.ask(5), (False, 2))


class TestStay(unittest.TestCase):
    def test_kinds_of_values(self):
        cache = cache_of("used", 2, (0, 1))
        self.assertIsNone(cache.pin(0))
        self.assertIs(cache.unpin(0), True)
        self.assertIs(cache.unpin(0), False)
        self.assertIsNone(cache.drop(0))
        self.assertIs(type(cache.pins()), list)

    def test_pin_twice(self):
        cache = cache_of("used", 3, (2, 1, 0))
        cache.pin(2)
        cache.pin(0)
        cache.pin(2)
        self.assertEqual(cache.pins(), [0, 2])
        self.assertTrue(cache.unpin(2))
        self.assertFalse(cache.unpin(2))
        self.assertEqual(cache.pins(), [0])

    def test_no_ask_is_counted(self):
        cache = cache_of("often", 2, (0, 1, 1))
        order = cache.order()
        cache.pin(0)
        cache.unpin(0)
        self.assertEqual((cache.counts(), cache.order()), ((3, 2), order))
        cache.drop(1)
        self.assertEqual(cache.counts(), (3, 2))

    def test_drop_what_must_stay(self):
        for rule in RULES:
            cache = cache_of(rule, 2, (0, 1))
            cache.pin(0)
            cache.drop(0)
            self.assertEqual((cache.holds(), cache.pins()), ((1,), []))
            self.assertEqual(cache.ask(0), (False, None))
            self.assertEqual(cache.pins(), [])
            self.assertFalse(cache.unpin(0))

    def test_drop_counts_anew(self):
        cache = cache_of("often", 2, (0, 0, 0, 1, 1))
        cache.drop(0)
        self.assertEqual(goes(cache, (0, 2)), [None, 0])

    def test_drop_makes_room(self):
        cache = cache_of("came", 2, (0, 1))
        cache.drop(0)
        self.assertEqual(goes(cache, (2, 0)), [None, 1])


class TestResize(unittest.TestCase):
    def test_kinds_of_values(self):
        cache = cache_of("used", 3, (0, 1, 2))
        for size in (3, 5, 1):
            self.assertIs(type(cache.resize(size)), list)

    def test_by_each_rule_one_behind_the_other(self):
        for rule, expected in (("came", [1, 0, 3]), ("used", [0, 3, 2]), ("last", [1, 2, 3]), ("high", [3, 2, 1]),
                               ("often", [3, 0, 2]), ("clock", [1, 0, 3])):
            for size in (1, 2, 3, 4, 6):
                cache = cache_of(rule, 4, (1, 0, 3, 2, 0, 0, 3, 2, 2, 1, 1, 1))
                with self.subTest(rule=rule, size=size):
                    self.assertEqual(cache.resize(size), expected[:max(0, 4 - size)])

    def test_more_room(self):
        for rule in RULES:
            cache = cache_of(rule, 1, (0, 1))
            self.assertEqual(cache.resize(3), [])
            self.assertEqual(goes(cache, (2, 3)), [None, None])
            self.assertEqual(cache.holds(), (1, 2, 3))
            self.assertIsNotNone(cache.ask(4)[1])

    def test_more_than_are_held(self):
        for rule in RULES:
            cache = cache_of(rule, 6, (0, 1))
            self.assertEqual(cache.resize(2), [])
            self.assertIsNotNone(cache.ask(4)[1])

    def test_who_must_stay_does(self):
        for rule in RULES:
            cache = cache_of(rule, 4, (0, 1, 2, 3))
            cache.pin(1)
            cache.pin(3)
            self.assertEqual(sorted(cache.resize(2)), [0, 2])
            self.assertEqual((cache.holds(), cache.pins()), ((1, 3), [1, 3]))

    def test_no_room(self):
        for rule in RULES:
            cache = cache_of(rule, 4, (0, 1, 2, 3))
            for page in (1, 2, 3):
                cache.pin(page)
            ahead = told_of(cache)
            for size in (2, 1, 2):
                refused(self, "NoRoom", cache.resize, size)
                self.assertEqual(told_of(cache), ahead)
            # The size is the same, too: there is room for four.
            cache.unpin(1)
            cache.drop(0)
            self.assertEqual(cache.ask(7), (False, None))
            self.assertIsNotNone(cache.ask(8)[1])

    def test_as_if_it_had_not_been_refused(self):
        for rule in RULES:
            cache, other = cache_of(rule, 4, APART), cache_of(rule, 4, APART)
            for page in cache.holds()[:2]:
                cache.pin(page)
                other.pin(page)
            refused(self, "NoRoom", cache.resize, 1)
            self.assertEqual(goes(cache, made_up(3, 40, 8)), goes(other, made_up(3, 40, 8)))

    def test_all_must_stay_and_there_is_room_for_them(self):
        for rule in RULES:
            cache = cache_of(rule, 4, (0, 1))
            cache.pin(0)
            cache.pin(1)
            self.assertEqual(cache.resize(2), [])
            refused(self, "NoRoom", cache.resize, 1)
            refused(self, "NoRoom", cache.ask, 2)


class TestOrder(unittest.TestCase):
    def test_kinds_of_values(self):
        for rule in RULES:
            cache = cache_of(rule, 3, APART)
            self.assertEqual([type(told) for told in told_of(cache)], [tuple, tuple, list, tuple, list])

    def test_in_the_turn_of_the_rows(self):
        stream = (5, 3, 8, 5, 3, 3)
        for rule, order in (("came", (5, 3, 8)), ("often", (5, 3, 8)), ("high", (5, 3, 8)), ("clock", (5, 3, 8)),
                            ("used", (8, 5, 3)), ("last", (8, 5, 3))):
            cache = cache_of(rule, 3, stream)
            self.assertEqual((cache.order(), cache.holds()), (order, (3, 5, 8)))

    def test_when_one_goes(self):
        for rule, order in (("came", (3, 8, 1)), ("often", (5, 3, 1)), ("high", (5, 3, 1)), ("clock", (1, 3, 8)),
                            ("used", (5, 3, 1)), ("last", (8, 5, 1))):
            self.assertEqual(cache_of(rule, 3, (5, 3, 8, 5, 3, 3, 1)).order(), order)


class TestMarks(unittest.TestCase):
    def test_kinds_of_values(self):
        cache = Cache("used", 2)
        self.assertIsNone(cache.mark("a"))
        self.assertIsNone(cache.go("a"))
        self.assertIs(type(cache.marks()), list)

    def test_go_makes_all_so_again(self):
        for rule in RULES:
            cache = cache_of(rule, 3, APART)
            cache.pin(cache.order()[1])
            cache.mark("here")
            ahead = told_of(cache)
            later = goes(cache, made_up(1, 30, 9))
            cache.unpin(cache.pins()[0])
            cache.drop(cache.holds()[0])
            cache.resize(1)
            cache.resize(6)
            for _ in range(2):
                cache.go("here")
                self.assertEqual(told_of(cache), ahead)
                self.assertEqual(goes(cache, made_up(1, 30, 9)), later)

    def test_the_names_stay(self):
        cache = Cache("came", 2)
        cache.mark("b")
        cache.ask(1)
        cache.mark("a")
        cache.go("b")
        self.assertEqual((cache.marks(), cache.holds()), (["a", "b"], ()))
        cache.go("a")
        self.assertEqual(cache.holds(), (1,))

    def test_named_anew(self):
        cache = Cache("came", 2)
        cache.mark("a")
        cache.ask(1)
        cache.mark("b")
        cache.ask(2)
        cache.mark("a")
        cache.go("b")
        self.assertEqual(cache.holds(), (1,))
        cache.go("a")
        self.assertEqual(cache.holds(), (1, 2))
        self.assertEqual(cache.marks(), ["a", "b"])

    def test_the_hand_and_the_marks_of_the_clock(self):
        cache = cache_of("clock", 3, (0, 1, 2, 3))
        cache.mark("a")
        self.assertEqual(goes(cache, (1, 4)), [None, 2])
        cache.go("a")
        self.assertEqual(goes(cache, (4, 5)), [1, 2])

    def test_the_size(self):
        cache = cache_of("came", 1, (0,))
        cache.mark("a")
        cache.resize(3)
        cache.go("a")
        self.assertEqual(cache.ask(1), (False, 0))

    def test_which_names(self):
        cache = Cache("came", 2)
        names = ("z", "a", "abcdefgh", "zzzzzzzz", "mark", "go")
        for name in names:
            cache.mark(name)
        self.assertEqual(cache.marks(), sorted(names))


class TestCallByCall(unittest.TestCase):
    """Beside the model, with many calls made up, and what is told of all behind each."""

    def test_each_rule(self):
        for rule in RULES:
            for seed in range(8):
                for size in (1, 2, 3, 4, 6):
                    self.along(rule, size, seed)

    def along(self, rule, size, seed):
        cache, model = Cache(rule, size), ModelCache(rule, size)
        numbers = made_up(1000 * seed + size, 600, 120)
        for at in range(0, len(numbers), 2):
            name, given = made_up_call(numbers[at], numbers[at + 1])
            told, expected = told_or_refused(cache, name, given), told_or_refused(model, name, given)
            where = (rule, size, seed, at, name, given)
            self.assertEqual(told, expected, where)
            self.assertEqual(type(told), type(expected), where)
            self.assertEqual(told_of(cache), told_of(model), where)

    def test_two_caches_by_turns(self):
        for rule in RULES:
            for other_rule in RULES:
                one, other = Cache(rule, 3), Cache(other_rule, 2)
                stream, other_stream = made_up(5, 40, 6), made_up(6, 40, 5)
                rows, other_rows = [], []
                for page, other_page in zip(stream, other_stream):
                    rows.append(one.ask(page))
                    other_rows.append(other.ask(other_page))
                    one.mark("a")
                    self.assertEqual(other.marks(), [])
                self.assertEqual(rows, run(rule, 3, stream)[1])
                self.assertEqual(other_rows, run(other_rule, 2, other_stream)[1])

    def test_what_was_told_may_be_changed(self):
        for rule in RULES:
            cache = cache_of(rule, 4, (0, 1, 2, 3))
            cache.pin(1)
            cache.mark("a")
            ahead = told_of(cache)
            for told in (cache.pins(), cache.marks(), cache.resize(4)):
                told.append(5)
                told.insert(0, "b")
                self.assertEqual(told_of(cache), ahead)
            cache.resize(2).clear()
            cache.go("a")
            self.assertEqual(told_of(cache), ahead)

    def test_the_same_is_told_again(self):
        for rule in RULES:
            cache = cache_of(rule, 3, APART)
            self.assertEqual([told_of(cache) for _ in range(3)], [told_of(cache)] * 3)


def made_up_call(number, worth):
    """(The name of a call, what it is given): asks above all, and sizes and points of which some can't be."""
    page, name, size = worth % 8, NAMES[worth % len(NAMES)], worth % 6 + 1
    if number < 60:
        return "ask", page
    if number < 78:
        return "pin", page
    if number < 92:
        return "unpin", page
    if number < 102:
        return "drop", page
    if number < 110:
        return "resize", size
    return ("mark", name) if number < 114 else ("go", name)


def told_or_refused(cache, name, given):
    try:
        return getattr(cache, name)(given)
    except CacheError as error:
        return type(error).__name__
    except ModelRefusal as refusal:
        return str(refusal)


class TestRefusals(unittest.TestCase):
    def refused_calls(self, name, calls, values):
        """Each call with each value is refused, and the cache tells behind it what it told ahead of it."""
        for call, cache in calls:
            ahead = told_of(cache)
            for value in values:
                refused(self, name, call, value)
                self.assertEqual(told_of(cache), ahead)

    def test_rules(self):
        for rule in ("", "Used", "lru", 0, 1, None, True, False, (), [], ("used",), ["used"], RULES, list(RULES)):
            refused(self, "BadRule", Cache, rule, 3)
            refused(self, "BadRule", Cache, rule, 0)

    def test_sizes(self):
        values = (0, -1, 7, 8) + FAR_NUMBERS + OTHER_KINDS
        for rule in RULES:
            for size in values:
                refused(self, "BadSize", Cache, rule, size)
            cache = cache_of(rule, 3, APART)
            self.refused_calls("BadSize", [(cache.resize, cache)], values)
            for size in range(1, 7):
                Cache(rule, size)
                cache.resize(size)

    def test_what_is_no_page(self):
        for rule in RULES:
            cache = cache_of(rule, 3, (0, 1, 9))
            calls = [(call, cache) for call in (cache.ask, cache.pin, cache.unpin, cache.drop)]
            self.refused_calls("BadPage", calls, (-1, -2, 10, 11) + FAR_NUMBERS + OTHER_KINDS)

    def test_a_page_that_is_not_held(self):
        for rule in RULES:
            cache = cache_of(rule, 3, (0, 1, 9))
            calls = [(call, cache) for call in (cache.pin, cache.unpin, cache.drop)]
            self.refused_calls("BadPage", calls, (2, 3, 8))
            cache.drop(1)
            calls = [(call, cache) for call in (cache.pin, cache.unpin, cache.drop)]
            self.refused_calls("BadPage", calls, (1,))

    def test_a_page_is_refused_ahead_of_the_room(self):
        cache = cache_of("used", 1, (0,))
        cache.pin(0)
        self.refused_calls("BadPage", [(cache.ask, cache)], (-1, 10, None, True))
        self.refused_calls("BadSize", [(cache.resize, cache)], (0, 7, None))

    def test_names(self):
        cache = cache_of("used", 3, APART)
        cache.mark("a")
        values = ("abcdefghi", "A", "aA", "a b", " a", "a ", "1", "a1", "a-b", "a_b", "`", "{", "~", "a\n", "\n",
                  ("a",), ["a"], 5, 0, 1) + tuple(value for value in OTHER_KINDS if value != "came")
        self.refused_calls("BadName", [(cache.mark, cache)], values)

    def test_points(self):
        cache = cache_of("used", 3, APART)
        values = ("a", "b", "abcdefghi", "A", ("a",), ["a"], 5, 0, 1) + OTHER_KINDS
        self.refused_calls("NoPoint", [(cache.go, cache)], values)
        cache.mark("a")
        self.refused_calls("NoPoint", [(cache.go, cache)], values[1:])
        # What another cache has named is no name here.
        other = Cache("used", 3)
        other.mark("q")
        self.refused_calls("NoPoint", [(cache.go, cache)], ("q",))

    def test_refused_asks_do_not_count(self):
        cache = cache_of("used", 1, (0,))
        cache.pin(0)
        for page, name in ((1, "NoRoom"), (10, "BadPage"), (None, "BadPage")):
            refused(self, name, cache.ask, page)
        self.assertEqual(cache.counts(), (1, 1))


class TestInterface(unittest.TestCase):
    def test_each_method_stands_in_the_class(self):
        for name, words in METHODS.items():
            self.assertEqual(str(inspect.signature(Cache.__dict__[name])), words, name)
        self.assertEqual(str(inspect.signature(Cache)), "(rule, size)")

    def test_it_is_defined_in_the_file(self):
        self.assertEqual(caches.Cache.__module__, "cachebet.caches")

    def test_asked_by_name_the_same_is_told(self):
        cache = Cache(size=2, rule="used")
        self.assertEqual(cache.ask(page=3), (False, None))
        cache.pin(page=3)
        self.assertTrue(cache.unpin(page=3))
        cache.mark(name="a")
        cache.drop(page=3)
        cache.go(name="a")
        self.assertEqual((cache.holds(), cache.resize(size=1)), ((3,), []))


if __name__ == "__main__":
    unittest.main()
