"""[1] and [2]: texts, rows and words, and what is refused instead."""

import unittest

from answerhouse.asking import against, ask, missing, which
from answerhouse.bearing import bearers, clashes, follows
from answerhouse.errors import BadCount, BadRow, BadSaying
from answerhouse.houses import House
from answerhouse.mending import hanging, mended, needless, parted, trusted
from answerhouse.notes import written
from answerhouse.papers import paper, read_steps
from tests.made import NO_ROWS, NO_SUCH_THINGS

SAYING = ("is", "a", "k")
BARRED = "is isnt has hasnt to all are no each who some turned goes on comes from leads also".split()
ONE_OF_EACH = (
    ("is", "a", "k"), ("isnt", "a", "m"), ("has", "a", "t", "b"), ("hasnt", "a", "u", "b"), ("all", "k", "l"),
    ("no", "k", "m"), ("each", "k", "t", "c"), ("who", "t", "k", "l"), ("turned", "t", "s"), ("on", "t"),
    ("from", "t", "k"), ("to", "t", "l"), ("under", "t", "s"),
)

ALL_FUNCTIONS = (
    follows,
    clashes,
    lambda rows: bearers(rows, SAYING),
    lambda rows: against(rows, SAYING),
    lambda rows: ask(rows, SAYING),
    lambda rows: which(rows, SAYING),
    lambda rows: missing(rows, SAYING),
)

# All doors that take a text, with what is refused behind it, too.
DOORS = ALL_FUNCTIONS + (
    lambda rows: bearers(rows, None),
    lambda rows: against(rows, None),
    lambda rows: ask(rows, None),
    lambda rows: which(rows, None, answer=None),
    lambda rows: missing(rows, None, most=None),
    mended,
    trusted,
    needless,
    lambda rows: hanging(rows, None),
    lambda rows: parted(rows, None),
    lambda rows: parted((), rows),
    lambda rows: parted(ONE_OF_EACH, rows),
    lambda rows: paper(rows, None),
    lambda rows: read_steps(rows, None),
    House,
    written,
)


class Texts(unittest.TestCase):
    def assert_bad_row(self, rows, number):
        for function in DOORS:
            with self.assertRaises(BadRow) as caught:
                function(rows)
            self.assertEqual(caught.exception.number, number, rows)

    def test_the_empty_text(self):
        self.assertEqual(follows(()), [])
        self.assertEqual(clashes(()), [])
        self.assertEqual(bearers((), SAYING), [])
        self.assertEqual(against((), SAYING), [])
        self.assertEqual(ask((), SAYING), ("doubt", None, None))
        self.assertEqual(which((), ("is", None, None), answer="doubt"), [])
        self.assertEqual(which((), SAYING, answer="doubt"), [SAYING])
        self.assertIsNone(missing((), SAYING, most=2))

    def test_every_row_has_its_form(self):
        for row in ONE_OF_EACH:
            for function in ALL_FUNCTIONS:
                function((row,))
        for row in ONE_OF_EACH:
            self.assert_bad_row((row + ("a",),), 0)
            self.assert_bad_row((row[:-1],), 0)
            self.assert_bad_row((list(row),), 0)

    def test_all_forms_stand_in_one_text(self):
        self.assertEqual(follows(ONE_OF_EACH), [
            ("has", "a", "s", "b"), ("has", "a", "s", "c"), ("has", "a", "t", "b"), ("has", "a", "t", "c"),
            ("has", "b", "s", "a"), ("has", "c", "s", "a"), ("is", "a", "k"), ("is", "a", "l"), ("is", "b", "l"),
            ("is", "c", "l"),
        ])

    def test_words_of_one_and_six_letters(self):
        for word in ("a", "z", "abcdef", "zzzzzz", "under", "row", "hasn", "ison", "isa"):
            self.assertEqual(follows((("is", word, word),)), [("is", word, word)])

    def test_a_word_may_be_a_name_and_a_kind_and_a_tie(self):
        rows = (("is", "a", "a"), ("each", "a", "a", "a"), ("on", "a"), ("all", "a", "b"))
        self.assertEqual(follows(rows), [("has", "a", "a", "a"), ("is", "a", "a"), ("is", "a", "b")])

    def test_no_words(self):
        for word in (*BARRED, "", "abcdefg", "A", "aB", "a1", "a ", " a", "a-b", "\u00e9", None, 1, True, ["a"], ("a",)):
            for row in (("is", word, "k"), ("is", "a", word), ("has", "a", word, "b"), ("on", word)):
                self.assert_bad_row((("is", "a", "k"), row), 1)

    def test_no_rows(self):
        for row in NO_ROWS:
            self.assert_bad_row((row,), 0)
            self.assert_bad_row((("is", "a", "k"), ("on", "t"), row, ("is",)), 2)

    def test_no_tuple(self):
        for rows in (None, True, False, 0, 7, 1.5, "", "text", [], [("is", "a", "k")], {}):
            self.assert_bad_row(rows, 0)

    def test_a_row_is_no_text(self):
        self.assert_bad_row(("is", "a", "k"), 0)

    def test_twenty_four_rows_and_a_twenty_fifth(self):
        rows = tuple(("is", "a", letter) for letter in "bcdefghijklmnopqrstuvwxy")
        self.assertEqual(follows(rows), list(rows))
        self.assertEqual(bearers(rows, rows[23]), [(23,)])
        self.assert_bad_row(rows + (("is", "a", "z"),), 24)
        self.assert_bad_row(rows + (("is", "a"),), 24)
        self.assert_bad_row(rows + (("is", "a", "z"), ("is",)), 24)
        self.assert_bad_row(rows[:7] + (("is",),) + rows[7:], 7)
        self.assert_bad_row(rows[:23] + (None, None), 23)


class Refusals(unittest.TestCase):
    def test_the_first_handed_in_is_refused_first(self):
        for function in (bearers, against, ask, which, missing):
            with self.assertRaises(BadRow):
                function((("is", "a"),), ("is", "a"))
        for wrong in ({"answer": "perhaps"}, {"answer": None}):
            with self.assertRaises(BadRow):
                which(None, ("is",), **wrong)
            with self.assertRaises(BadSaying):
                which((), ("is",), **wrong)
            with self.assertRaises(BadCount):
                which((), SAYING, **wrong)
        for wrong in ({"most": 3}, {"most": True}):
            with self.assertRaises(BadRow):
                missing([], ("is",), **wrong)
            with self.assertRaises(BadSaying):
                missing((), ("is",), **wrong)
            with self.assertRaises(BadCount):
                missing((), SAYING, **wrong)

    def test_what_stands_behind_the_star_is_handed_in_by_its_name(self):
        with self.assertRaises(TypeError):
            which((), SAYING, "yes")
        with self.assertRaises(TypeError):
            missing((), SAYING, 1)

    def test_whatever_is_handed_in_is_refused_by_its_own_refusal(self):
        for thing in NO_SUCH_THINGS:
            for function in (bearers, against, ask, which, missing):
                with self.assertRaises(BadRow):
                    function(thing, SAYING)
                with self.assertRaises(BadSaying):
                    function((), thing)
        for thing in NO_SUCH_THINGS:
            with self.assertRaises(BadCount):
                which((), SAYING, answer=thing)
        for thing in (*[t for t in NO_SUCH_THINGS if t is True or t not in (0, 1)], False, 3, 1.0, 10 ** 30):
            with self.assertRaises(BadCount):
                missing((), SAYING, most=thing)


class Answers(unittest.TestCase):
    ROWS = (("is", "a", "k"), ("all", "k", "l"), ("isnt", "a", "l"))

    def test_what_is_told_may_be_changed_and_the_same_is_told_again(self):
        asked = (
            follows, clashes,
            lambda rows: bearers(rows, ("is", "a", "l")),
            lambda rows: against(rows, ("is", "a", "k")),
            lambda rows: which(rows, ("is", "a", None), answer="both"),
        )
        for function in asked:
            first = function(self.ROWS)
            kept = list(first)
            self.assertIsInstance(first, list)
            self.assertTrue(first)
            first.clear()
            self.assertEqual(function(self.ROWS), kept)

    def test_refusals_change_nothing(self):
        before = ask(self.ROWS, ("is", "a", "l"))
        with self.assertRaises(BadRow):
            ask(self.ROWS + (None,), ("is", "a", "l"))
        self.assertEqual(ask(self.ROWS, ("is", "a", "l")), before)


if __name__ == "__main__":
    unittest.main()
