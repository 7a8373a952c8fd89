"""[9]: steps that a reader goes by."""

import unittest

from answerhouse.bearing import bearers
from answerhouse.errors import BadRow, BadSaying, BadSteps, NoFollow
from answerhouse.papers import paper, read_steps
from tests.made import NO_SUCH_THINGS

ROWS = (
    ("has", "a", "t", "b"),   # 0
    ("has", "b", "t", "c"),   # 1
    ("on", "t"),              # 2
    ("is", "c", "k"),         # 3
    ("who", "t", "k", "l"),   # 4
    ("all", "l", "m"),        # 5
    ("each", "m", "s", "d"),  # 6
    ("turned", "s", "u"),     # 7
    ("under", "u", "v"),      # 8
    ("from", "v", "n"),       # 9
    ("to", "v", "o"),         # 10
    ("isnt", "e", "k"),       # 11
    ("hasnt", "e", "t", "e"),  # 12
    ("no", "k", "p"),         # 13
)

# All rows that let something follow, in turn.
LONG = [
    (("has", "a", "t", "b"), 0, ()),
    (("has", "b", "t", "c"), 1, ()),
    (("has", "a", "t", "c"), 2, (0, 1)),
    (("is", "c", "k"), 3, ()),
    (("is", "a", "l"), 4, (2, 3)),
    (("is", "a", "m"), 5, (4,)),
    (("has", "a", "s", "d"), 6, (5,)),
    (("has", "d", "u", "a"), 7, (6,)),
    (("has", "d", "v", "a"), 8, (7,)),
    (("is", "d", "n"), 9, (8,)),
    (("is", "a", "o"), 10, (8,)),
]
EQUAL_STEP = (("has", "a", "t", "b"), 0, ())


class ReadSteps(unittest.TestCase):
    def assert_bad_steps(self, number, steps, rows=ROWS):
        with self.assertRaises(BadSteps) as caught:
            read_steps(rows, steps)
        self.assertEqual(caught.exception.number, number, steps)

    def test_steps_of_every_kind(self):
        self.assertEqual(read_steps(ROWS, LONG), (("is", "a", "o"), list(range(11))))
        self.assertEqual(read_steps(ROWS, LONG[:3]), (("has", "a", "t", "c"), [0, 1, 2]))
        self.assertEqual(read_steps(ROWS, LONG[3:4]), (("is", "c", "k"), [3]))

    def test_rows_are_told_rising_and_once(self):
        steps = [LONG[3], LONG[1], (("is", "b", "l"), 4, (1, 0)), LONG[3]]
        self.assertEqual(read_steps(ROWS, steps), (("is", "c", "k"), [1, 3, 4]))

    def test_all_rows_used_are_told_also_those_that_lead_nowhere(self):
        self.assertEqual(read_steps(ROWS, [LONG[0], LONG[3]]), (("is", "c", "k"), [0, 3]))

    def test_a_step_told_twice_and_one_from_itself_told_ahead(self):
        rows = (("is", "a", "k"), ("all", "k", "k"), ("has", "a", "t", "a"), ("on", "t"), ("turned", "t", "t"))
        steps = [
            (rows[0], 0, ()), (rows[0], 0, ()), (rows[0], 1, (1,)), (rows[2], 2, ()), (rows[2], 3, (3, 3)),
            (rows[2], 4, (4,)),
        ]
        self.assertEqual(read_steps(rows, steps), (rows[2], [0, 1, 2, 3, 4]))

    def test_equal_rows_may_each_be_used(self):
        rows = (("is", "a", "k"), ("is", "a", "k"))
        self.assertEqual(read_steps(rows, [(rows[0], 1, ())]), (rows[0], [1]))

    def test_lists_that_are_none(self):
        for steps in (None, True, False, 0, 1, 2.5, "", "steps", (), tuple(LONG), {}, LONG[0], []):
            self.assert_bad_steps(0, steps)

    def test_two_hundred_steps_and_one_more(self):
        self.assertEqual(read_steps(ROWS, [EQUAL_STEP] * 200), (EQUAL_STEP[0], [0]))
        self.assert_bad_steps(200, [EQUAL_STEP] * 201)
        self.assert_bad_steps(200, [EQUAL_STEP] * 200 + [None, None])
        self.assert_bad_steps(199, [EQUAL_STEP] * 199 + [None, EQUAL_STEP])
        self.assert_bad_steps(3, [EQUAL_STEP] * 3 + [None] + [EQUAL_STEP] * 300)

    def test_things_that_are_no_steps(self):
        for step in (*NO_SUCH_THINGS, (), LONG[0][:2], (*LONG[0], 0), list(LONG[0]), (LONG[0],), EQUAL_STEP[0]):
            self.assert_bad_steps(0, [step])
            self.assert_bad_steps(2, [EQUAL_STEP, EQUAL_STEP, step, None])

    def test_sayings_that_are_none(self):
        for saying in (*NO_SUCH_THINGS, list(LONG[0][0]), ("isnt", "e", "k"), ("on", "t"), ("has", "a", "t"),
                       ("is", "a", None)):
            for number in range(len(ROWS)):
                self.assert_bad_steps(1, [EQUAL_STEP, (saying, number, ())])
        self.assert_bad_steps(0, [(ROWS[11], 11, ())])
        self.assert_bad_steps(0, [(ROWS[2], 2, ())])

    def test_numbers_of_rows_that_are_none(self):
        for number in (14, -14, -1, 10 ** 30, None, True, False, "0", 0.0, 1.5, (0,), [0], ()):
            self.assert_bad_steps(1, [EQUAL_STEP, (EQUAL_STEP[0], number, ())])
        self.assert_bad_steps(0, [EQUAL_STEP], ())
        rows = (("is", "a", "k"), ("is", "a", "k"))
        for number in (True, False, -1, 2):
            self.assert_bad_steps(0, [(rows[0], number, ())], rows)

    def test_steps_ahead_that_are_none(self):
        rows = (("is", "a", "k"), ("all", "k", "l"))
        first = (rows[0], 0, ())
        self.assertEqual(read_steps(rows, [first, first, (("is", "a", "l"), 1, (1,))])[1], [0, 1])
        for ahead in ((2,), (3,), (-1,), (10 ** 30,), (True,), (False,), (None,), ("0",), (0.0,), ([0],), [0], [], 0,
                      None, "", "0", {}, True, (0, 1), (1, 1), (0, 0, 0), (0, None)):
            self.assert_bad_steps(2, [first, first, (("is", "a", "l"), 1, ahead), (rows[0], 1, (2,))], rows)
        for ahead in ([], None, 0, "", {}, False, (0,), (1,)):
            self.assert_bad_steps(2, [first, first, (rows[0], 0, ahead)], rows)

    def test_steps_that_name_themselves_or_one_behind(self):
        rows = (("is", "a", "k"), ("all", "k", "k"), ("has", "a", "t", "a"), ("on", "t"))
        self.assert_bad_steps(0, [(rows[0], 1, (0,)), (rows[0], 0, ())], rows)
        self.assert_bad_steps(0, [(rows[0], 1, (1,)), (rows[0], 0, ())], rows)
        self.assert_bad_steps(1, [(rows[2], 2, ()), (rows[2], 3, (0, 1))], rows)
        self.assert_bad_steps(1, [(rows[2], 2, ()), (rows[2], 3, (2, 0)), (rows[2], 2, ())], rows)

    def test_with_none_ahead_the_row_is_the_saying(self):
        self.assert_bad_steps(0, [(("is", "c", "k"), 0, ())])
        self.assert_bad_steps(0, [(("has", "a", "t", "c"), 2, ())])
        self.assert_bad_steps(1, [EQUAL_STEP, (("has", "a", "t", "b"), 0, (0,))])

    def test_with_one_ahead_it_follows_from_that_one(self):
        for at in (5, 6, 7, 8, 9, 10):
            saying, number, _ = LONG[at]
            self.assert_bad_steps(11, LONG + [(saying, number, ())])
            self.assert_bad_steps(11, LONG + [(saying, number, (0,))])
            self.assert_bad_steps(11, LONG + [(saying, number, (at - 1, at - 1))])
            self.assert_bad_steps(11, LONG + [(saying, 2, (at - 1,))])
            self.assert_bad_steps(11, LONG + [(("is", "a", "p"), number, (at - 1,))])

    def test_two_ways_of_ties(self):
        rows = (("has", "a", "t", "b"), ("turned", "t", "s"), ("from", "t", "k"), ("to", "t", "l"))
        first = (rows[0], 0, ())
        self.assert_bad_steps(1, [first, (("has", "a", "s", "b"), 1, (0,))], rows)
        self.assert_bad_steps(1, [first, (("is", "b", "k"), 2, (0,))], rows)
        self.assert_bad_steps(1, [first, (("is", "a", "l"), 3, (0,))], rows)
        self.assertEqual(read_steps(rows, [first, (("is", "b", "l"), 3, (0,))]), (("is", "b", "l"), [0, 3]))

    def test_with_two_ahead_the_first_is_led_on_by_the_second(self):
        self.assert_bad_steps(2, LONG[:2] + [(("has", "a", "t", "c"), 2, (1, 0))])
        self.assert_bad_steps(2, LONG[:2] + [(("has", "a", "t", "c"), 2, (0,))])
        self.assert_bad_steps(2, LONG[:2] + [(("has", "b", "t", "b"), 2, (0, 1))])
        self.assert_bad_steps(2, LONG[:2] + [(("has", "a", "s", "c"), 2, (0, 1))])
        self.assert_bad_steps(2, LONG[:2] + [(("has", "a", "t", "c"), 2, (0, 1, 1))])

    def test_with_two_ahead_the_tie_comes_first_and_the_kind_second(self):
        ahead = [LONG[1], LONG[3]]
        good = (("is", "b", "l"), 4, (0, 1))
        self.assertEqual(read_steps(ROWS, ahead + [good]), (("is", "b", "l"), [1, 3, 4]))
        self.assert_bad_steps(2, ahead + [(("is", "b", "l"), 4, (1, 0))])
        self.assert_bad_steps(2, ahead + [(("is", "b", "l"), 4, (0,))])
        self.assert_bad_steps(2, ahead + [(("is", "b", "l"), 4, (1,))])
        self.assert_bad_steps(2, ahead + [(("is", "c", "l"), 4, (0, 1))])
        self.assert_bad_steps(2, ahead + [(("is", "b", "k"), 4, (0, 1))])
        self.assert_bad_steps(2, [LONG[0], LONG[3], (("is", "a", "l"), 4, (0, 1))])

    def test_a_clash_is_no_step(self):
        rows = (("is", "a", "k"), ("isnt", "a", "k"), ("no", "k", "k"))
        for number in (1, 2):
            for saying in (("clash",), ("is", "a", "k"), None):
                self.assert_bad_steps(1, [(rows[0], 0, ()), (saying, number, (0,))], rows)

    def test_what_is_handed_in_is_not_changed_and_what_is_told_may_be(self):
        steps = list(LONG)
        told = read_steps(ROWS, steps)
        self.assertIsInstance(told, tuple)
        told[1].clear()
        self.assertEqual(steps, LONG)
        self.assertEqual(read_steps(ROWS, steps), (("is", "a", "o"), list(range(11))))
        steps.clear()
        self.assert_bad_steps(0, steps)

    def test_a_text_is_refused_ahead_of_steps(self):
        for rows, number in ((None, 0), ([], 0), (ROWS + (None,), 14), ((("on", "t"),) * 25, 24)):
            for steps in (None, [], LONG):
                with self.assertRaises(BadRow) as caught:
                    read_steps(rows, steps)
                self.assertEqual(caught.exception.number, number)


class Paper(unittest.TestCase):
    def assert_paper(self, rows, saying):
        steps = paper(rows, saying)
        self.assertIsInstance(steps, list)
        self.assertEqual(read_steps(rows, steps), (saying, list(bearers(rows, saying)[0])))

    def test_a_row_of_the_text(self):
        self.assertEqual(paper(ROWS, ("is", "c", "k")), [(("is", "c", "k"), 3, ())])

    def test_all_kinds_of_rows(self):
        for saying, _, _ in LONG:
            self.assert_paper(ROWS, saying)
        told = read_steps(ROWS, paper(ROWS, ("is", "a", "o")))
        self.assertEqual(told, (("is", "a", "o"), [0, 1, 2, 3, 4, 5, 6, 7, 8, 10]))

    def test_the_first_of_bearers_is_gone_by(self):
        rows = (("all", "m", "k"), ("is", "a", "m"), ("is", "a", "l"), ("all", "l", "k"), ("is", "b", "k"),
                ("all", "l", "k"))
        self.assertEqual(read_steps(rows, paper(rows, ("is", "a", "k"))), (("is", "a", "k"), [0, 1]))
        self.assertEqual(read_steps(rows[1:], paper(rows[1:], ("is", "a", "k"))), (("is", "a", "k"), [1, 2]))
        rows = (("is", "a", "m"), ("all", "m", "k"), ("is", "a", "k"), ("is", "a", "k"))
        self.assertEqual(paper(rows, ("is", "a", "k")), [(("is", "a", "k"), 2, ())])

    def test_a_chain_of_ties(self):
        names = "abcdefghijklmnopqrstuvwx"
        rows = (("on", "t"),) + tuple(("has", one, "t", other) for one, other in zip(names, names[1:]))
        self.assert_paper(rows, ("has", "a", "t", "x"))
        self.assertEqual(len(bearers(rows, ("has", "a", "t", "x"))[0]), 24)

    def test_ties_to_oneself(self):
        self.assert_paper((("has", "a", "t", "b"), ("turned", "t", "t"), ("on", "t")), ("has", "b", "t", "b"))
        self.assert_paper((("has", "a", "t", "a"), ("is", "a", "k"), ("who", "t", "k", "l")), ("is", "a", "l"))

    def test_rows_round_and_round(self):
        names, kinds = "abcdefghijk", "abcdefghijkl"
        rows = (("is", "a", "a"),)
        rows += tuple(("has", one, "t", other) for one, other in zip(names[1:] + "a", names))
        rows += tuple(("who", "t", one, other) for one, other in zip(kinds, kinds[1:] + "a"))
        lengths = []
        for name in names:
            for kind in kinds:
                self.assert_paper(rows, ("is", name, kind))
                lengths.append(len(paper(rows, ("is", name, kind))))
        self.assertEqual(max(lengths), 1 + 11 + 131)

    def test_the_same_is_told_again(self):
        first = paper(ROWS, ("is", "a", "l"))
        kept = list(first)
        first.clear()
        self.assertEqual(paper(ROWS, ("is", "a", "l")), kept)

    def test_what_does_not_follow(self):
        for rows in ((), ROWS):
            for saying in (("is", "e", "k"), ("is", "a", "zzz"), ("has", "b", "t", "a")):
                with self.assertRaises(NoFollow):
                    paper(rows, saying)

    def test_refusals_in_turn(self):
        for thing in NO_SUCH_THINGS:
            with self.assertRaises(BadRow):
                paper(thing, None)
            with self.assertRaises(BadSaying):
                paper(ROWS, thing)
        for saying in (("isnt", "e", "k"), ("on", "t"), ("is", "a", None), ("is", "a"), ["is", "c", "k"]):
            with self.assertRaises(BadSaying):
                paper(ROWS, saying)


if __name__ == "__main__":
    unittest.main()
