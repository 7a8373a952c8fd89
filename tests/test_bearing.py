"""[3] and [4]: what follows, and the least lots that bear it or clash."""

import unittest

from answerhouse.bearing import bearers, clashes, follows
from answerhouse.errors import BadSaying
from tests.made import NO_ROWS


class Follows(unittest.TestCase):
    def assert_more(self, rows, *more):
        told = {row for row in rows if row[0] in ("is", "has")}
        self.assertEqual(follows(rows), sorted(told | set(more)))

    def test_sayings_follow_and_denials_do_not(self):
        self.assert_more((("isnt", "a", "k"), ("hasnt", "a", "t", "b"), ("no", "k", "l"), ("is", "b", "k")))

    def test_rules_alone_tell_nothing(self):
        self.assertEqual(follows((("all", "k", "l"), ("each", "k", "t", "a"), ("on", "t"))), [])

    def test_all(self):
        self.assert_more((("all", "k", "l"), ("is", "a", "k"), ("is", "b", "l")), ("is", "a", "l"))

    def test_each(self):
        self.assert_more((("each", "k", "t", "b"), ("is", "a", "k"), ("is", "b", "k")),
                         ("has", "a", "t", "b"), ("has", "b", "t", "b"))

    def test_who(self):
        rows = (("who", "t", "k", "l"), ("has", "a", "t", "b"), ("is", "b", "k"), ("has", "c", "t", "a"))
        self.assert_more(rows, ("is", "a", "l"))

    def test_who_to_oneself(self):
        self.assert_more((("has", "a", "t", "a"), ("is", "a", "k"), ("who", "t", "k", "l")), ("is", "a", "l"))

    def test_turned(self):
        self.assert_more((("turned", "t", "s"), ("has", "a", "t", "b"), ("has", "c", "s", "d")), ("has", "b", "s", "a"))

    def test_on(self):
        rows = (("on", "t"), ("has", "a", "t", "b"), ("has", "b", "t", "c"), ("has", "b", "s", "d"))
        self.assert_more(rows, ("has", "a", "t", "c"))

    def test_on_where_the_third_is_the_first(self):
        self.assert_more((("has", "a", "t", "b"), ("has", "b", "t", "a"), ("on", "t")),
                         ("has", "a", "t", "a"), ("has", "b", "t", "b"))

    def test_from_and_to(self):
        rows = (("from", "t", "k"), ("to", "t", "l"), ("has", "a", "t", "b"), ("has", "c", "s", "d"))
        self.assert_more(rows, ("is", "a", "k"), ("is", "b", "l"))

    def test_under(self):
        self.assert_more((("under", "t", "s"), ("has", "a", "t", "b"), ("has", "c", "s", "d")), ("has", "a", "s", "b"))

    def test_rows_go_on_from_what_follows(self):
        rows = (("who", "s", "l", "m"), ("is", "a", "k"), ("each", "k", "t", "b"), ("turned", "t", "s"),
                ("all", "k", "l"), ("each", "m", "u", "c"))
        self.assert_more(rows, ("has", "a", "t", "b"), ("has", "b", "s", "a"), ("is", "a", "l"), ("is", "b", "m"),
                         ("has", "b", "u", "c"))

    def test_a_kind_of_a_ties_word_is_no_tie(self):
        rows = (("is", "a", "t"), ("all", "t", "k"), ("has", "b", "t", "c"), ("turned", "k", "t"))
        self.assert_more(rows, ("is", "a", "k"))

    def test_a_row_that_stands_twice_is_told_once(self):
        self.assertEqual(follows((("is", "a", "k"), ("is", "a", "k"))), [("is", "a", "k")])


class Bearers(unittest.TestCase):
    def test_the_fewest_first_then_as_lists_ascend(self):
        rows = (("all", "m", "l"), ("is", "a", "k"), ("all", "k", "l"), ("is", "a", "m"), ("all", "k", "m"),
                ("is", "a", "l"))
        self.assertEqual(bearers(rows, ("is", "a", "l")), [(5,), (0, 3), (1, 2), (0, 1, 4)])

    def test_a_row_bears_itself_alone(self):
        rows = (("is", "a", "k"), ("all", "k", "k"), ("has", "a", "t", "a"), ("on", "t"))
        self.assertEqual(bearers(rows, ("is", "a", "k")), [(0,)])
        self.assertEqual(bearers(rows, ("has", "a", "t", "a")), [(2,)])

    def test_equal_rows_stand_for_each_other(self):
        rows = (("all", "k", "l"), ("is", "a", "k"), ("all", "k", "l"), ("is", "a", "k"))
        self.assertEqual(bearers(rows, ("is", "a", "l")), [(0, 1), (0, 3), (1, 2), (2, 3)])

    def test_a_row_may_serve_twice(self):
        rows = (("has", "a", "t", "b"), ("has", "b", "t", "c"), ("has", "c", "t", "d"), ("on", "t"))
        self.assertEqual(bearers(rows, ("has", "a", "t", "d")), [(0, 1, 2, 3)])

    def test_what_does_not_follow_has_none(self):
        self.assertEqual(bearers((("isnt", "a", "k"),), ("is", "a", "k")), [])

    def test_all_ways_round_a_ring(self):
        rows = tuple(("has", one, "t", other) for one, other in ("ab", "bc", "ac", "ca")) + (("on", "t"),)
        self.assertEqual(bearers(rows, ("has", "a", "t", "c")), [(2,), (0, 1, 4)])
        self.assertEqual(bearers(rows, ("has", "a", "t", "a")), [(2, 3, 4), (0, 1, 3, 4)])

    def test_many_lots_of_a_whole_text(self):
        rows = (("is", "a", "ka"),) + tuple(
            ("all", "k" + one, "k" + other) for one, other in ("ab", "bc", "cd", "de", "ef", "fg", "gh")
            for _ in range(3))
        lots = bearers(rows, ("is", "a", "kh"))
        self.assertEqual(len(lots), 3 ** 7)
        self.assertEqual(lots, sorted(lots))
        self.assertEqual(lots[0], (0, 1, 4, 7, 10, 13, 16, 19))

    def test_what_is_no_saying(self):
        for saying in (*NO_ROWS, ("isnt", "a", "k"), ("hasnt", "a", "t", "b"), ("all", "k", "l"), ("no", "k", "l"),
                       ("on", "t"), ("is", None, "k"), ("has", "a", None, "b"), ["is", "a", "k"]):
            with self.assertRaises(BadSaying):
                bearers((), saying)


class Clashes(unittest.TestCase):
    def test_by_isnt_and_hasnt(self):
        self.assertEqual(clashes((("isnt", "a", "k"), ("is", "a", "k"))), [(0, 1)])
        self.assertEqual(clashes((("hasnt", "a", "t", "b"), ("has", "a", "t", "b"))), [(0, 1)])
        self.assertEqual(clashes((("hasnt", "b", "t", "a"), ("has", "a", "t", "b"), ("isnt", "a", "t"))), [])

    def test_by_no(self):
        rows = (("no", "k", "l"), ("is", "a", "k"), ("is", "b", "l"), ("is", "b", "k"))
        self.assertEqual(clashes(rows), [(0, 2, 3)])

    def test_by_no_of_one_kind_twice(self):
        self.assertEqual(clashes((("no", "k", "k"), ("is", "a", "k"), ("is", "b", "k"))), [(0, 1), (0, 2)])

    def test_denials_alone_do_not_clash(self):
        self.assertEqual(clashes((("no", "k", "k"), ("isnt", "a", "k"), ("all", "k", "l"))), [])

    def test_the_fewest_first_then_as_lists_ascend(self):
        rows = (("is", "a", "k"), ("no", "k", "l"), ("all", "k", "l"), ("isnt", "a", "l"), ("is", "a", "l"))
        self.assertEqual(clashes(rows), [(3, 4), (0, 1, 2), (0, 1, 4), (0, 2, 3)])

    def test_through_ties(self):
        rows = (("has", "a", "t", "b"), ("turned", "t", "t"), ("on", "t"), ("hasnt", "a", "t", "a"))
        self.assertEqual(clashes(rows), [(0, 1, 2, 3)])


if __name__ == "__main__":
    unittest.main()
