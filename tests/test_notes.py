"""[11] and [1]: what written and read tell."""

import inspect
import unittest

from cachebet import notes
from cachebet.notes import read, written
from tests.models import APART, FAR_NUMBERS, OTHER_KINDS, many_streams, refused

NO_PAGES = (-1, 10, 11) + FAR_NUMBERS + OTHER_KINDS
NO_ROWS = ("", " ", "  ", "0  1", " 0", "0 ", " 0 1", "0 1 ", "01", "0 12", "10", "0 10 1", "--", "- -", "- 0", "0 -",
           "-0", "0-", " -", "- ", "-1", "+1", "a", "0 a", "0,1", "0, 1", "0\t1", "0\r", "0.0", "x1",
           "0 1 2 3 4 5 6 7 8 9 A", "~", "/", ":", "None", "()", "(0, 1)", "[0]", "  -", "0   1", "_", "1_0")
SIXTY, SIXTY_ONE = " ".join("9" * 60), " ".join("9" * 61)


class TestWritten(unittest.TestCase):
    def test_by_hand(self):
        self.assertEqual(written([]), "")
        self.assertEqual(written([()]), "-")
        self.assertEqual(written([(), ()]), "-\n-")
        self.assertEqual(written([(7,)]), "7")
        self.assertEqual(written([(0, 1, 9), (), (5, 5)]), "0 1 9\n-\n5 5")
        self.assertEqual(written([tuple(range(10))]), "0 1 2 3 4 5 6 7 8 9")
        self.assertEqual(written([(9,) * 60]), SIXTY)

    def test_kinds_of_values(self):
        for streams in ([], [()], [APART, ()]):
            self.assertIs(type(written(streams)), str)

    def test_the_list_is_not_changed_nor_kept(self):
        streams = [(0, 1), ()]
        self.assertEqual(written(streams), "0 1\n-")
        self.assertEqual(streams, [(0, 1), ()])
        streams.append((2,))
        self.assertEqual(written(streams), "0 1\n-\n2")

    def test_a_stream_that_can_not_be(self):
        for number, streams in ((0, [[]]), (0, [(1,), [0, 1]]), (0, ["0 1"]), (0, [None]), (0, [5]), (0, [True]),
                                (60, [(0,) * 61]), (60, [(), (9,) * 62]), (60, [(0,) * 61, (10,)]), (1, [(0, 10)]),
                                (0, [(10,), (0,) * 61]), (2, [(), (0, 1, True), (10,)]), (59, [(0,) * 59 + (None, 1)])):
            error = refused(self, "BadStream", written, streams)
            self.assertEqual(error.number, number, streams)

    def test_a_page_that_can_not_be(self):
        for page in NO_PAGES:
            for number in (0, 1, 7):
                stream = (0,) * number + (page,)
                self.assertEqual(refused(self, "BadStream", written, [(), APART, stream]).number, number)

    def test_what_is_no_list_at_all(self):
        for streams in (None, 5, True, "", "0 1", (0, 1)):
            self.assertEqual(refused(self, "BadStream", written, streams).number, 0)


class TestRead(unittest.TestCase):
    def test_by_hand(self):
        self.assertEqual(read(""), [])
        self.assertEqual(read("-"), [()])
        self.assertEqual(read("-\n-"), [(), ()])
        self.assertEqual(read("7"), [(7,)])
        self.assertEqual(read("0 1 9\n-\n5 5"), [(0, 1, 9), (), (5, 5)])
        self.assertEqual(read(SIXTY), [(9,) * 60])

    def test_kinds_of_values(self):
        told = read("0 1\n-")
        self.assertIs(type(told), list)
        self.assertEqual([type(stream) for stream in told], [tuple, tuple])
        self.assertEqual([type(page) for page in told[0]], [int, int])

    def test_what_is_written_is_read_to_the_same(self):
        streams = many_streams()
        for some in ([], [()], [(), (), ()], [APART], [(), APART, ()], streams, streams[::-1], [(9,) * 60] * 3,
                     [(page,) for page in range(10)]):
            self.assertEqual(read(written(some)), some)
            self.assertEqual(written(read(written(some))), written(some))

    def test_what_was_told_may_be_changed(self):
        told = read("0 1\n-")
        told.append(5)
        told[0] = None
        self.assertEqual(read("0 1\n-"), [(0, 1), ()])

    def test_what_is_no_text(self):
        for text in tuple(value for value in OTHER_KINDS if not isinstance(value, str)) + (0, 5, [(0, 1)], ["0 1"]):
            self.assertEqual(refused(self, "BadText", read, text).row, 0)

    def test_each_kind_of_bad_row(self):
        for row in NO_ROWS:
            if row:
                self.assertEqual(refused(self, "BadText", read, row).row, 0, row)
            self.assertEqual(refused(self, "BadText", read, row + "\n0 1").row, 0, row)
            self.assertEqual(refused(self, "BadText", read, "0 1\n" + row).row, 1, row)
            self.assertEqual(refused(self, "BadText", read, "-\n0\n" + row + "\n1\n-").row, 2, row)

    def test_a_line_end_at_the_end(self):
        self.assertEqual(refused(self, "BadText", read, "\n").row, 0)
        self.assertEqual(refused(self, "BadText", read, "0 1\n").row, 1)
        self.assertEqual(refused(self, "BadText", read, "0 1\n-\n").row, 2)
        self.assertEqual(refused(self, "BadText", read, "\n0 1").row, 0)
        self.assertEqual(refused(self, "BadText", read, "0\n\n1").row, 1)

    def test_the_first_bad_row_is_told(self):
        error = refused(self, "BadText", read, "0\n1\n \n01\n")
        self.assertEqual(error.row, 2)
        self.assertIs(type(error.row), int)

    def test_a_row_of_sixty_one_pages(self):
        for text in (SIXTY_ONE, "-\n" + SIXTY_ONE, SIXTY_ONE + "\n0 1", SIXTY + "\n" + SIXTY_ONE + " 0 1 2",
                     SIXTY_ONE + "\n" + SIXTY_ONE):
            error = refused(self, "BadStream", read, text)
            self.assertEqual(error.number, 60)

    def test_a_bad_row_is_refused_ahead_of_too_many_pages(self):
        for row in NO_ROWS:
            self.assertEqual(refused(self, "BadText", read, SIXTY_ONE + "\n" + row).row, 1)
            self.assertEqual(refused(self, "BadText", read, row + "\n" + SIXTY_ONE).row, 0)
            self.assertEqual(refused(self, "BadText", read, "-\n" + SIXTY_ONE + "\n0\n" + row + "\n1").row, 3)
        # So many that there can't be, and a bad one behind them, in one row.
        self.assertEqual(refused(self, "BadText", read, SIXTY_ONE + " x").row, 0)
        self.assertEqual(refused(self, "BadText", read, "0\n" + SIXTY_ONE + " 10").row, 1)

    def test_behind_refusals_the_same_is_told(self):
        ahead = read(SIXTY + "\n-"), written([APART, ()])
        for row in NO_ROWS:
            refused(self, "BadText", read, "0\n" + row)
        self.assertEqual((read(SIXTY + "\n-"), written([APART, ()])), ahead)


class TestInterface(unittest.TestCase):
    def test_names_of_arguments(self):
        self.assertEqual(str(inspect.signature(written)), "(streams)")
        self.assertEqual(str(inspect.signature(read)), "(text)")
        self.assertEqual(read(text=written(streams=[(1,)])), [(1,)])

    def test_all_are_defined_in_the_file(self):
        for name in ("written", "read"):
            self.assertEqual(getattr(notes, name).__module__, "cachebet.notes")


if __name__ == "__main__":
    unittest.main()
