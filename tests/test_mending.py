"""[8]: what to leave out, what may be trusted, what may go, what hangs on a row, and how texts differ."""

import unittest

from answerhouse.errors import BadRow, NoRow
from answerhouse.mending import hanging, mended, needless, parted, trusted
from tests.made import NO_SUCH_THINGS

LETTERS = "bcdefghijklmnopqrstuvwxy"
BIRDS = (
    ("is", "tweety", "bird"), ("all", "bird", "flyer"), ("isnt", "tux", "flyer"), ("is", "tux", "bird"),
    ("has", "tux", "eats", "nemo"),
)


class Mended(unittest.TestCase):
    def test_where_nothing_clashes(self):
        self.assertEqual(mended(()), ())
        self.assertEqual(mended(BIRDS[:2]), ())
        self.assertEqual(mended((("isnt", "a", "k"), ("no", "k", "l"))), ())

    def test_of_one_lot_its_first_row(self):
        self.assertEqual(mended(BIRDS), (1,))
        self.assertEqual(mended((("on", "t"), ("hasnt", "a", "t", "b"), ("has", "a", "t", "b"))), (1,))

    def test_one_row_of_several_lots_is_fewer_than_one_of_each(self):
        rows = (("is", "a", "k"), ("is", "b", "k"), ("isnt", "a", "l"), ("isnt", "b", "l"), ("all", "k", "l"))
        self.assertEqual(mended(rows), (4,))

    def test_rows_that_clash_apart(self):
        rows = (("is", "a", "k"), ("isnt", "a", "k"), ("on", "t"), ("isnt", "b", "k"), ("is", "b", "k"))
        self.assertEqual(mended(rows), (0, 3))

    def test_of_several_such_lots_the_first(self):
        # Rows 0 and 1 clash, and rows 1 and 2, and rows 2 and 3: of (0, 2), (1, 2) and (1, 3) the first.
        rows = (("is", "a", "k"), ("no", "k", "k"), ("is", "b", "k"), ("isnt", "b", "k"))
        self.assertEqual(mended(rows), (0, 2))
        # Rows 1 and 2 clash, and rows 1 and 0, and rows 0 and 3: of (0, 1), (0, 2) and (1, 3) the first.
        rows = (("is", "b", "k"), ("no", "k", "k"), ("is", "a", "k"), ("isnt", "b", "k"))
        self.assertEqual(mended(rows), (0, 1))

    def test_equal_rows_are_left_out_together(self):
        rows = (("is", "a", "k"), ("isnt", "a", "k"), ("is", "a", "k"))
        self.assertEqual(mended(rows), (1,))
        self.assertEqual(mended((*rows, ("isnt", "a", "k"))), (0, 2))

    def test_twenty_four_rows(self):
        rows = tuple((word, "a", kind) for kind in LETTERS[:12] for word in ("is", "isnt"))
        self.assertEqual(mended(rows), tuple(range(0, 24, 2)))
        self.assertEqual(mended((("is", "a", "k"),) * 12 + (("isnt", "a", "k"),) * 12), tuple(range(12)))
        self.assertEqual(mended((("is", "a", "k"),) * 13 + (("isnt", "a", "k"),) * 11), tuple(range(13, 24)))


class Trusted(unittest.TestCase):
    def test_where_nothing_clashes_all_that_follows(self):
        self.assertEqual(trusted(()), [])
        self.assertEqual(trusted(BIRDS[:2]), [("is", "tweety", "bird"), ("is", "tweety", "flyer")])

    def test_without_all_rows_of_lots_that_clash(self):
        self.assertEqual(trusted(BIRDS), [("has", "tux", "eats", "nemo"), ("is", "tweety", "bird")])

    def test_all_lots_count(self):
        rows = (("is", "a", "k"), ("all", "k", "l"), ("is", "a", "m"), ("all", "m", "l"), ("isnt", "a", "l"),
                ("is", "b", "m"), ("is", "c", "n"))
        self.assertEqual(trusted(rows), [("is", "b", "m"), ("is", "c", "n")])

    def test_rows_beside_a_least_lot_stay(self):
        rows = (("is", "a", "k"), ("isnt", "a", "k"), ("all", "k", "l"), ("is", "b", "k"))
        self.assertEqual(trusted(rows), [("is", "b", "k"), ("is", "b", "l")])


class Needless(unittest.TestCase):
    def test_no_rows(self):
        self.assertEqual(needless(()), [])

    def test_rows_that_nothing_comes_of(self):
        self.assertEqual(needless((("is", "a", "k"), ("all", "l", "m"), ("isnt", "a", "m"), ("on", "t"))), [1, 2, 3])

    def test_each_is_left_out_alone(self):
        rows = (("is", "a", "k"), ("all", "k", "l"), ("is", "a", "l"), ("is", "a", "k"))
        self.assertEqual(needless(rows), [0, 1, 2, 3])
        self.assertEqual(needless((("is", "a", "k"), ("all", "k", "l"), ("is", "a", "l"))), [1, 2])
        self.assertEqual(needless((("all", "k", "l"), ("is", "a", "k"), ("is", "b", "l"))), [])

    def test_the_only_rows_that_clash_are_needed(self):
        rows = (("is", "a", "k"), ("isnt", "a", "k"), ("isnt", "a", "l"))
        self.assertEqual(needless(rows), [2])

    def test_of_several_rows_by_which_something_clashes_each_is_needless(self):
        rows = (("is", "a", "k"), ("isnt", "a", "k"), ("no", "k", "k"))
        self.assertEqual(needless(rows), [1, 2])

    def test_twenty_four_rows(self):
        rows = tuple(("is", "a", letter) for letter in LETTERS)
        self.assertEqual(needless(rows), [])
        self.assertEqual(needless((("is", "a", "k"),) * 24), list(range(24)))


class Hanging(unittest.TestCase):
    def test_what_hangs_on_a_row(self):
        self.assertEqual(hanging(BIRDS, 0), [("is", "tweety", "bird"), ("is", "tweety", "flyer")])
        self.assertEqual(hanging(BIRDS, 1), [("is", "tux", "flyer"), ("is", "tweety", "flyer")])
        self.assertEqual(hanging(BIRDS, 2), [])
        self.assertEqual(hanging(BIRDS, 4), [("has", "tux", "eats", "nemo")])

    def test_what_follows_otherwise_does_not_hang(self):
        rows = (("is", "a", "k"), ("all", "k", "l"), ("is", "a", "l"), ("is", "a", "k"))
        for number in (0, 1, 2, 3):
            self.assertEqual(hanging(rows, number), [])

    def test_numbers(self):
        rows = tuple(("is", "a", letter) for letter in LETTERS)
        self.assertEqual(hanging(rows, 0), [("is", "a", "b")])
        self.assertEqual(hanging(rows, 23), [("is", "a", "y")])
        for number in (24, -1, -24, 10 ** 30, True, False, None, "0", 0.0, 1.5, (0,), [0]):
            with self.assertRaises(NoRow):
                hanging(rows, number)
        with self.assertRaises(NoRow):
            hanging((), 0)


class Parted(unittest.TestCase):
    def test_what_follows_from_one_alone(self):
        rows = (("is", "a", "k"), ("all", "k", "m"), ("is", "b", "k"))
        other = (("is", "a", "m"), ("is", "b", "k"), ("has", "a", "t", "b"))
        self.assertEqual(parted(rows, other), (
            [("is", "a", "k"), ("is", "b", "m")],
            [("has", "a", "t", "b")],
        ))

    def test_texts_from_which_the_same_follows(self):
        self.assertEqual(parted((), ()), ([], []))
        self.assertEqual(parted((("is", "a", "k"), ("on", "t")), (("isnt", "a", "l"), ("is", "a", "k"))), ([], []))

    def test_no_rows_beside_a_text(self):
        self.assertEqual(parted((), BIRDS[3:]), ([], [("has", "tux", "eats", "nemo"), ("is", "tux", "bird")]))
        self.assertEqual(parted(BIRDS[3:], ()), ([("has", "tux", "eats", "nemo"), ("is", "tux", "bird")], []))


class Refusals(unittest.TestCase):
    def assert_bad_row(self, number, function, *things):
        with self.assertRaises(BadRow) as caught:
            function(*things)
        self.assertEqual(caught.exception.number, number)

    def test_what_is_no_text(self):
        for function in (mended, trusted, needless, lambda rows: hanging(rows, 0), lambda rows: parted(rows, None)):
            for thing in NO_SUCH_THINGS:
                self.assert_bad_row(0, function, thing)
            self.assert_bad_row(4, function, BIRDS[:4] + (("is", "tux"),))
            self.assert_bad_row(24, function, (("on", "t"),) * 25)

    def test_the_second_text_is_refused_after_the_first(self):
        for thing in NO_SUCH_THINGS:
            self.assert_bad_row(0, parted, (), thing)
        self.assert_bad_row(2, parted, BIRDS, BIRDS[:2] + (["is", "tux", "bird"],))
        self.assert_bad_row(24, parted, (), (("on", "t"),) * 25)
        self.assert_bad_row(1, parted, (BIRDS[0], None), (None,))

    def test_a_text_is_refused_ahead_of_a_number(self):
        self.assert_bad_row(1, hanging, (("on", "t"), ("on",)), 7)
        self.assert_bad_row(0, hanging, None, None)


class Told(unittest.TestCase):
    def test_kinds_of_values(self):
        self.assertIsInstance(mended(BIRDS), tuple)
        self.assertIsInstance(parted(BIRDS, ()), tuple)
        for told in (*parted(BIRDS, ()), trusted(BIRDS), needless(BIRDS), hanging(BIRDS, 0)):
            self.assertIsInstance(told, list)

    def test_what_is_told_may_be_changed_and_the_same_is_told_again(self):
        for function in (trusted, needless, lambda rows: hanging(rows, 1), lambda rows: parted(rows, ())[0]):
            first = function(BIRDS[:2] + BIRDS[4:] + (("on", "t"),))
            kept = list(first)
            self.assertTrue(kept)
            first.clear()
            self.assertEqual(function(BIRDS[:2] + BIRDS[4:] + (("on", "t"),)), kept)


if __name__ == "__main__":
    unittest.main()
