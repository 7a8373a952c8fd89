"""[5], [6] and [7]: questions, and what is missing."""

import unittest

from answerhouse.asking import against, ask, missing, which
from answerhouse.errors import BadCount, BadSaying
from tests.made import NO_ROWS

BIRDS = (
    ("is", "tweety", "bird"), ("all", "bird", "flyer"), ("isnt", "tux", "flyer"), ("is", "tux", "bird"),
    ("no", "fish", "bird"), ("has", "tux", "eats", "nemo"),
)


class Against(unittest.TestCase):
    def test_by_a_denial(self):
        self.assertEqual(against(BIRDS, ("is", "tux", "flyer")), [(2,)])
        self.assertEqual(against((("hasnt", "a", "t", "b"),), ("has", "a", "t", "b")), [(0,)])

    def test_by_a_kind_that_is_barred(self):
        rows = (("is", "a", "k"), ("no", "k", "l"))
        self.assertEqual(against(rows, ("is", "a", "l")), [(0, 1)])
        self.assertEqual(against(rows, ("is", "b", "l")), [])

    def test_by_what_would_follow(self):
        rows = (("each", "k", "t", "b"), ("to", "t", "l"), ("isnt", "b", "l"))
        self.assertEqual(against(rows, ("is", "a", "k")), [(0, 1, 2)])

    def test_lots_that_clash_alone_are_left_out(self):
        rows = (("is", "a", "k"), ("isnt", "a", "k"))
        self.assertEqual(against(rows, ("is", "a", "k")), [(1,)])
        self.assertEqual(against(rows, ("is", "b", "l")), [])

    def test_a_lot_with_all_rows_of_one_that_clashes_alone_is_left_out(self):
        rows = (("is", "a", "k"), ("isnt", "a", "k"), ("all", "k", "l"), ("no", "l", "m"))
        self.assertEqual(against(rows, ("is", "a", "m")), [(0, 2, 3)])
        rows = (("has", "a", "t", "b"), ("hasnt", "a", "t", "b"), ("from", "s", "k"), ("isnt", "c", "k"))
        self.assertEqual(against(rows, ("has", "c", "s", "a")), [(2, 3)])

    def test_the_fewest_first_then_as_lists_ascend(self):
        rows = (("all", "k", "l"), ("is", "a", "m"), ("no", "l", "m"), ("no", "m", "k"), ("isnt", "a", "l"),
                ("isnt", "a", "k"))
        self.assertEqual(against(rows, ("is", "a", "k")), [(5,), (0, 4), (1, 3), (0, 1, 2)])

    def test_a_saying_with_words_of_no_row(self):
        self.assertEqual(against((("no", "k", "k"),), ("is", "new", "k")), [(0,)])
        self.assertEqual(against((("on", "t"), ("from", "t", "k"), ("no", "k", "k")), ("has", "x", "t", "y")), [(1, 2)])

    def test_equal_rows_stand_for_each_other(self):
        self.assertEqual(against((("isnt", "a", "k"), ("isnt", "a", "k")), ("is", "a", "k")), [(0,), (1,)])

    def test_beside_twenty_four_rows(self):
        rows = tuple(("is", "a", letter) for letter in "bcdefghijklmnopqrstuvwx") + (("no", "z", "x"),)
        self.assertEqual(against(rows, ("is", "a", "z")), [(22, 23)])


class Ask(unittest.TestCase):
    def test_yes(self):
        self.assertEqual(ask(BIRDS, ("is", "tweety", "flyer")), ("yes", (0, 1), None))

    def test_a_saying_that_the_text_itself_bears(self):
        self.assertEqual(ask(BIRDS, ("has", "tux", "eats", "nemo")), ("yes", (5,), None))

    def test_no(self):
        self.assertEqual(ask(BIRDS, ("is", "tweety", "fish")), ("no", None, (0, 4)))

    def test_both(self):
        self.assertEqual(ask(BIRDS, ("is", "tux", "flyer")), ("both", (1, 3), (2,)))

    def test_doubt(self):
        self.assertEqual(ask(BIRDS, ("is", "nemo", "fish")), ("doubt", None, None))

    def test_the_first_lots_are_told(self):
        rows = (("all", "m", "k"), ("is", "a", "m"), ("is", "a", "k"), ("is", "a", "k"), ("isnt", "a", "k"),
                ("isnt", "a", "k"))
        self.assertEqual(ask(rows, ("is", "a", "k")), ("both", (2,), (4,)))

    def test_a_tuple_is_told(self):
        self.assertIsInstance(ask(BIRDS, ("is", "tux", "bird")), tuple)

    def test_what_is_no_saying(self):
        for saying in (*NO_ROWS, ("isnt", "a", "k"), ("on", "t"), ("is", None, "k"), ("has", "a", "t", None)):
            for function in (ask, against, missing):
                with self.assertRaises(BadSaying):
                    function(BIRDS, saying)


class Which(unittest.TestCase):
    def test_no_open_place(self):
        self.assertEqual(which(BIRDS, ("is", "tweety", "bird")), [("is", "tweety", "bird")])
        self.assertEqual(which(BIRDS, ("is", "tweety", "bird"), answer="no"), [])
        self.assertEqual(which(BIRDS, ("is", "tux", "bird"), answer="both"), [("is", "tux", "bird")])
        self.assertEqual(which(BIRDS, ("is", "new", "word"), answer="doubt"), [("is", "new", "word")])

    def test_all_places_open(self):
        self.assertEqual(which(BIRDS, ("has", None, None, None)), [("has", "tux", "eats", "nemo")])
        self.assertEqual(which(BIRDS, ("is", None, None)),
                         [("is", "tweety", "bird"), ("is", "tweety", "flyer")])

    def test_each_word(self):
        self.assertEqual(which(BIRDS, ("is", None, None), answer="yes"), which(BIRDS, ("is", None, None)))
        self.assertEqual(which(BIRDS, ("is", None, None), answer="no"), [("is", "tux", "fish"), ("is", "tweety", "fish")])
        self.assertEqual(which(BIRDS, ("is", None, None), answer="both"),
                         [("is", "tux", "bird"), ("is", "tux", "flyer")])
        self.assertEqual(which(BIRDS, ("is", None, None), answer="doubt"),
                         [("is", "nemo", "bird"), ("is", "nemo", "fish"), ("is", "nemo", "flyer")])

    def test_each_place(self):
        rows = (("has", "b", "t", "a"), ("has", "a", "s", "b"), ("has", "b", "s", "b"))
        self.assertEqual(which(rows, ("has", None, "s", "b")), [("has", "a", "s", "b"), ("has", "b", "s", "b")])
        self.assertEqual(which(rows, ("has", "b", None, "a")), [("has", "b", "t", "a")])
        self.assertEqual(which(rows, ("has", "b", "s", None)), [("has", "b", "s", "b")])

    def test_words_stand_in_the_places_in_which_rows_tell_of_them(self):
        rows = (("each", "k", "t", "a"), ("who", "s", "l", "m"))
        self.assertEqual(which(rows, ("is", None, None), answer="doubt"),
                         [("is", "a", "k"), ("is", "a", "l"), ("is", "a", "m")])
        self.assertEqual(which(rows, ("has", None, None, None), answer="doubt"),
                         [("has", "a", "s", "a"), ("has", "a", "t", "a")])
        rows = (("from", "t", "k"), ("to", "s", "l"), ("turned", "u", "v"), ("under", "w", "x"), ("on", "y"),
                ("no", "m", "n"), ("all", "o", "p"))
        self.assertEqual([s[2] for s in which(rows, ("is", "a", None), answer="doubt")], list("klmnop"))
        self.assertEqual([s[2] for s in which(rows, ("has", "a", None, "a"), answer="doubt")], list("stuvwxy"))
        self.assertEqual(which(rows, ("is", None, "k"), answer="doubt"), [])

    def test_a_name_of_no_row(self):
        rows = (("all", "k", "l"), ("no", "l", "l"))
        self.assertEqual(which(rows, ("is", "new", None), answer="no"), [("is", "new", "k"), ("is", "new", "l")])

    def test_of_a_text_that_clashes(self):
        rows = (("is", "a", "k"), ("isnt", "a", "k"), ("is", "b", "l"), ("no", "k", "l"))
        self.assertEqual(which(rows, ("is", None, None), answer="both"), [("is", "a", "k")])
        self.assertEqual(which(rows, ("is", None, None), answer="yes"), [("is", "b", "l")])
        self.assertEqual(which(rows, ("is", None, None), answer="no"), [("is", "a", "l"), ("is", "b", "k")])

    def test_what_is_no_question(self):
        for question in (None, [], "is", ("is",), ("is", None), (None, None, None), (None, "a", "k"), ("has", None, None),
                         ("is", None, None, None), ("isnt", None, None), ("all", None, None), ("on", None),
                         ["is", None, None], ("is", "", None), ("is", True, None), ("is", None, 0),
                         ("is", None, "who"), ("is", [None], "k"), (None,), ()):
            with self.assertRaises(BadSaying):
                which(BIRDS, question)

    def test_no_such_word(self):
        for answer in ("", "Yes", "maybe", "yes ", "none", None, True, 1, ["yes"], ("yes",), {}):
            with self.assertRaises(BadCount):
                which(BIRDS, ("is", None, None), answer=answer)

    def test_many_sayings(self):
        names = [one + other for one in "abcdef" for other in "abcdefgh"]
        rows = tuple(("has", names[2 * k], "t" * (1 + k // 4) , names[2 * k + 1]) for k in range(23))
        rows += (("hasnt", names[0], "t", names[0]),)
        sayings = which(rows, ("has", None, None, None), answer="doubt")
        self.assertEqual(len(sayings), 46 * 46 * 6 - 24)
        self.assertEqual(sayings, sorted(sayings))
        self.assertEqual(which(rows, ("has", None, None, None), answer="no"), [("has", names[0], "t", names[0])])


class Missing(unittest.TestCase):
    def test_what_follows_already_misses_nothing(self):
        for most in (0, 1, 2):
            self.assertEqual(missing(BIRDS, ("is", "tweety", "flyer"), most=most), ())
            self.assertEqual(missing(BIRDS, ("is", "tux", "flyer"), most=most), ())

    def test_one(self):
        rows = (("all", "k", "l"), ("is", "a", "m"))
        self.assertEqual(missing(rows, ("is", "a", "l")), (("is", "a", "k"),))
        self.assertIsNone(missing(rows, ("is", "a", "l"), most=0))

    def test_two(self):
        rows = (("who", "t", "k", "l"), ("isnt", "a", "m"))
        self.assertIsNone(missing(rows, ("is", "a", "l")))
        self.assertEqual(missing(rows, ("is", "a", "l"), most=2), (("has", "a", "t", "a"), ("is", "a", "k")))

    def test_the_fewest(self):
        rows = (("who", "s", "k", "l"), ("is", "a", "m"), ("all", "n", "l"))
        self.assertEqual(missing(rows, ("is", "a", "l"), most=2), (("is", "a", "n"),))

    def test_the_first_of_several(self):
        rows = (("all", "k", "l"), ("all", "j", "l"), ("from", "t", "k"), ("is", "b", "m"), ("is", "a", "m"))
        self.assertEqual(missing(rows, ("is", "b", "l")), (("has", "b", "t", "a"),))

    def test_none_by_which_other_lots_clash(self):
        rows = (("all", "k", "l"), ("all", "j", "l"), ("isnt", "a", "j"))
        self.assertEqual(missing(rows, ("is", "a", "l")), (("is", "a", "k"),))
        self.assertIsNone(missing(rows + (("no", "k", "k"),), ("is", "a", "l"), most=2))

    def test_a_saying_that_rows_are_against_is_not_brought_about(self):
        self.assertIsNone(missing((("all", "k", "l"), ("isnt", "a", "l")), ("is", "a", "l"), most=2))

    def test_in_a_text_that_clashes_already(self):
        rows = (("all", "k", "l"), ("is", "a", "m"), ("isnt", "a", "m"))
        self.assertEqual(missing(rows, ("is", "a", "l")), (("is", "a", "k"),))
        # That a has t to b would make the isnt row clash with the to row, as it did not ahead.
        rows = (("all", "k", "m"), ("is", "b", "k"), ("isnt", "b", "m"), ("from", "t", "n"), ("to", "t", "m"))
        self.assertEqual(missing(rows + (("is", "a", "m"),), ("is", "a", "n")), (("has", "a", "t", "a"),))
        self.assertIsNone(missing(rows + (("hasnt", "a", "t", "a"),), ("is", "a", "n"), most=2))

    def test_the_asked_one_does_not_count(self):
        self.assertIsNone(missing((("is", "a", "k"), ("is", "b", "l")), ("is", "a", "l"), most=2))

    def test_only_words_that_rows_tell_of(self):
        self.assertIsNone(missing((("all", "k", "l"),), ("is", "a", "l"), most=2))
        self.assertIsNone(missing((("all", "k", "l"), ("is", "b", "m")), ("is", "a", "l"), most=2))

    def test_two_that_rise(self):
        rows = (("has", "b", "t", "c"), ("on", "t"), ("hasnt", "d", "t", "a"))
        self.assertEqual(missing(rows, ("has", "d", "t", "c"), most=1), (("has", "d", "t", "b"),))
        rows = (("who", "t", "l", "m"), ("is", "z", "k"), ("isnt", "y", "l"), ("hasnt", "z", "t", "z"))
        self.assertIsNone(missing(rows, ("is", "z", "m"), most=2))
        self.assertEqual(missing(rows[:3], ("is", "z", "m"), most=2), (("has", "z", "t", "z"), ("is", "z", "l")))

    def test_among_many_pairs(self):
        rows = tuple(("isnt", name, "j") for name in "abcdefghijklz") + (("on", "t"), ("who", "t", "k", "m"))
        for name in "alz":
            self.assertEqual(missing(rows, ("is", name, "m"), most=2), (("has", name, "t", "a"), ("is", "a", "k")))
        self.assertIsNone(missing(rows + (("no", "k", "k"),), ("is", "z", "m"), most=2))

    def test_no_such_count(self):
        for most in (-1, 3, 100, True, False, None, "1", "", 1.0, [1], (1,), {}):
            for rows in ((), BIRDS):
                with self.assertRaises(BadCount):
                    missing(rows, ("is", "tux", "flyer"), most=most)

    def test_one_is_the_most_if_none_is_handed_in(self):
        rows = (("who", "t", "k", "l"), ("is", "a", "m"))
        self.assertEqual(missing(rows, ("is", "a", "l")), missing(rows, ("is", "a", "l"), most=1))


if __name__ == "__main__":
    unittest.main()
