"""[10] to [13]: houses, what was asked of them, and batches of deeds."""

import inspect
import unittest

from answerhouse.asking import ask
from answerhouse.errors import BadDeed, BadRow, BadSaying, Halted, NoRow
from answerhouse.houses import House
from tests.made import NO_ROWS, NO_SUCH_THINGS

LETTERS = "bcdefghijklmnopqrstuvwxy"
FULL = tuple(("is", "a", letter) for letter in LETTERS)
A = ("is", "a", "k")
B = ("all", "k", "l")
C = ("isnt", "a", "l")
D = ("on", "t")
NO_NUMBERS = (-1, 10 ** 30, None, True, False, "0", "", 0.0, 1.5, (0,), [0], {}, ())


class HouseTest(unittest.TestCase):
    def assert_refused(self, refusal, function, *things, number=None):
        with self.assertRaises(refusal) as caught:
            function(*things)
        if number is not None:
            self.assertEqual(caught.exception.number, number)

    def assert_halted(self, number, done, house, deeds, **keep):
        with self.assertRaises(Halted) as caught:
            house.batch(deeds, **keep)
        self.assertEqual((caught.exception.number, caught.exception.done), (number, done))


class Texts(HouseTest):
    def test_a_house_is_made_of_a_text(self):
        for rows in ((), (A, B), FULL):
            self.assertEqual(House(rows).text(), rows)
            self.assertIsInstance(House(rows).text(), tuple)

    def test_of_no_text_no_house_is_made(self):
        for thing in (*NO_SUCH_THINGS, [A, B]):
            self.assert_refused(BadRow, House, thing, number=0)
        self.assert_refused(BadRow, House, (A, B, None), number=2)
        self.assert_refused(BadRow, House, FULL + (A,), number=24)

    def test_put(self):
        house = House(())
        self.assertIsNone(house.put(0, A))
        self.assertIsNone(house.put(1, C))
        self.assertIsNone(house.put(1, B))
        self.assertIsNone(house.put(0, D))
        self.assertEqual(house.text(), (D, A, B, C))

    def test_put_up_to_twenty_four(self):
        house = House(FULL[:23])
        house.put(23, D)
        self.assertEqual(house.text(), FULL[:23] + (D,))
        for number in (0, 7, 23, 24):
            self.assert_refused(BadRow, house.put, number, A, number=number)
        self.assert_refused(NoRow, house.put, 25, A)
        self.assertEqual(house.text(), FULL[:23] + (D,))

    def test_drop(self):
        house = House((A, B, C))
        self.assertEqual(house.drop(1), B)
        self.assertEqual(house.drop(1), C)
        self.assertEqual(house.text(), (A,))
        self.assertEqual(house.drop(0), A)
        self.assertEqual(house.text(), ())
        self.assert_refused(NoRow, house.drop, 0)

    def test_tell(self):
        house = House((A, B))
        self.assertEqual(house.tell(0, C), A)
        self.assertEqual(house.tell(1, D), B)
        self.assertEqual(house.tell(1, D), D)
        self.assertEqual(house.text(), (C, D))
        house = House(FULL)
        self.assertEqual(house.tell(23, A), FULL[23])
        self.assertEqual(house.text(), FULL[:23] + (A,))

    def test_no_such_number(self):
        house = House((A, B))
        for number in (*NO_NUMBERS, 3):
            self.assert_refused(NoRow, house.put, number, C)
        for number in (*NO_NUMBERS, 2):
            self.assert_refused(NoRow, house.drop, number)
            self.assert_refused(NoRow, house.tell, number, C)
        self.assertEqual(house.text(), (A, B))

    def test_no_row(self):
        house = House((A, B))
        for thing in NO_ROWS:
            for number in (0, 1, 2):
                self.assert_refused(BadRow, house.put, number, thing, number=number)
            for number in (0, 1):
                self.assert_refused(BadRow, house.tell, number, thing, number=number)
        self.assert_refused(BadRow, house.put, 0, (A, B), number=0)
        self.assertEqual(house.text(), (A, B))

    def test_a_number_is_refused_ahead_of_a_row(self):
        house = House((A, B))
        self.assert_refused(NoRow, house.put, 3, None)
        self.assert_refused(NoRow, house.tell, 2, None)
        self.assert_refused(NoRow, House(FULL).put, 25, None)
        self.assert_refused(BadRow, House(FULL).put, 24, None, number=24)

    def test_two_houses_stand_apart(self):
        one, other = House((A, B)), House((A, B))
        one.drop(0)
        one.ask(A)
        one.batch([("put", 0, C)])
        self.assertEqual((other.text(), other.kept(), other.turned(), other.told()), ((A, B), [], [], []))
        self.assertEqual((one.text(), one.kept(), one.told()), ((C, B), [(A, "doubt")], ["begun", "put", "ended"]))


class Asking(HouseTest):
    def test_ask_tells_as_the_text_stands(self):
        house = House((A, B))
        self.assertEqual(house.ask(("is", "a", "l")), ("yes", (0, 1), None))
        house.put(0, C)
        self.assertEqual(house.ask(("is", "a", "l")), ("both", (1, 2), (0,)))
        house.drop(1)
        self.assertEqual(house.ask(("is", "a", "l")), ("no", None, (0,)))
        house.tell(0, D)
        self.assertEqual(house.ask(("is", "a", "l")), ("doubt", None, None))
        self.assertIsInstance(house.ask(A), tuple)

    def test_kept(self):
        house = House((A, B))
        self.assertEqual(house.kept(), [])
        house.ask(("is", "a", "l"))
        house.ask(("has", "a", "t", "b"))
        house.tell(1, C)
        house.ask(("is", "a", "l"))
        house.ask(("is", "a", "l"))
        self.assertEqual(house.kept(), [
            (("is", "a", "l"), "yes"), (("has", "a", "t", "b"), "doubt"), (("is", "a", "l"), "no"),
            (("is", "a", "l"), "no"),
        ])

    def test_turned(self):
        house = House((A, B))
        self.assertEqual(house.turned(), [])
        house.ask(A)
        house.ask(("is", "a", "l"))
        house.ask(("is", "b", "l"))
        self.assertEqual(house.turned(), [])
        house.put(2, C)
        self.assertEqual(house.turned(), [(0, A, "yes", "both"), (1, ("is", "a", "l"), "yes", "both")])
        house.ask(("is", "a", "l"))
        house.drop(0)
        self.assertEqual(house.turned(), [
            (0, A, "yes", "no"), (1, ("is", "a", "l"), "yes", "no"), (3, ("is", "a", "l"), "both", "no"),
        ])
        house.put(0, A)
        self.assertEqual(house.turned(), [(0, A, "yes", "both"), (1, ("is", "a", "l"), "yes", "both")])
        house.drop(2)
        self.assertEqual(house.turned(), [(3, ("is", "a", "l"), "both", "yes")])

    def test_turned_keeps_nothing(self):
        house = House((A,))
        house.ask(A)
        house.drop(0)
        for _ in range(3):
            self.assertEqual(house.turned(), [(0, A, "yes", "doubt")])
            self.assertEqual(house.kept(), [(A, "yes")])

    def test_another_lot_is_no_other_word(self):
        house = House((A, ("is", "a", "m"), ("all", "m", "k")))
        self.assertEqual(house.ask(A), ("yes", (0,), None))
        house.drop(0)
        self.assertEqual(house.turned(), [])
        self.assertEqual(house.ask(A), ("yes", (0, 1), None))

    def test_sayings_of_words_that_no_row_tells_of(self):
        house = House(())
        house.ask(("is", "x", "k"))
        house.put(0, ("no", "k", "k"))
        self.assertEqual(house.turned(), [(0, ("is", "x", "k"), "doubt", "no")])

    def test_what_is_refused_is_not_kept(self):
        house = House((A, B))
        for thing in (*NO_SUCH_THINGS, B, C, D, ("is", "a"), ("is", None, "k"), list(A)):
            self.assert_refused(BadSaying, house.ask, thing)
        self.assertEqual(house.kept(), [])
        self.assertEqual(house.turned(), [])

    def test_what_is_told_may_be_changed(self):
        house = House((A,))
        house.ask(A)
        house.drop(0)
        house.batch([])
        for told in (house.kept, house.turned, house.told):
            self.assertIsInstance(told(), list)
            self.assertTrue(told())
            told().clear()
            told().append(None)
        self.assertEqual(house.kept(), [(A, "yes")])
        self.assertEqual(house.turned(), [(0, A, "yes", "doubt")])
        self.assertEqual(house.told(), ["begun", "ended"])


class Batches(HouseTest):
    def test_what_each_deed_told(self):
        house = House((A,))
        told = house.batch([("put", 1, B), ("tell", 0, C), ("drop", 1), ("put", 0, D)])
        self.assertEqual(told, [None, A, B, None])
        self.assertEqual(house.text(), (D, C))
        self.assertEqual(house.told(), ["begun", "put", "tell", "drop", "put", "ended"])

    def test_no_deeds(self):
        house = House((A,))
        self.assertEqual(house.batch([]), [])
        self.assertEqual(house.text(), (A,))
        self.assertEqual(house.told(), ["begun", "ended"])

    def test_told_of_several_batches(self):
        house = House(())
        self.assertEqual(house.told(), [])
        house.batch([("put", 0, A)])
        house.put(0, B)
        house.drop(0)
        house.ask(A)
        house.batch([("drop", 0)], keep=False)
        self.assertEqual(house.told(), ["begun", "put", "ended", "begun", "drop", "ended"])

    def test_halted_at_the_last_place(self):
        for keep, done, text in ((True, 2, (C, A)), (False, 0, (A, B))):
            house = House((A, B))
            self.assert_halted(2, done, house, [("drop", 1), ("put", 0, C), ("drop", 2)], keep=keep)
            self.assertEqual(house.text(), text)
            self.assertEqual(house.told(), ["begun", "drop", "put", "ended"])
            self.assertIs(house.is_idle(), True)

    def test_halted_at_the_first_place(self):
        for keep in (True, False):
            house = House((A, B))
            self.assert_halted(0, 0, house, [("tell", 2, C), ("drop", 0)], keep=keep)
            self.assertEqual(house.text(), (A, B))
            self.assertEqual(house.told(), ["begun", "ended"])
            self.assertIs(house.is_idle(), True)

    def test_halted_between(self):
        deeds = [("put", 2, C), ("tell", 0, D), ("tell", 1, ("is", "a")), ("drop", 0), ("drop", 99)]
        house = House((A, B))
        self.assert_halted(2, 2, house, deeds)
        self.assertEqual(house.text(), (D, B, C))
        house = House((A, B))
        self.assert_halted(2, 0, house, deeds, keep=False)
        self.assertEqual(house.text(), (A, B))
        self.assertEqual(house.told(), ["begun", "put", "tell", "ended"])

    def test_what_stood_kept_is_kept_if_none_is(self):
        house = House(())
        house.batch([("put", 0, A), ("put", 1, B)])
        house.ask(A)
        self.assert_halted(1, 0, house, [("drop", 0), ("drop", 1)], keep=False)
        self.assertEqual(house.text(), (A, B))
        self.assertEqual(house.kept(), [(A, "yes")])
        self.assertEqual(house.turned(), [])
        self.assertEqual(house.batch([("drop", 0), ("drop", 0)], keep=False), [A, B])
        self.assertEqual(house.text(), ())
        self.assertEqual(house.told(), [
            "begun", "put", "put", "ended", "begun", "drop", "ended", "begun", "drop", "drop", "ended",
        ])

    def test_every_refusal_of_a_deed_halts(self):
        wrong = [("put", number, C) for number in (*NO_NUMBERS, 3)]
        wrong += [("drop", number) for number in (*NO_NUMBERS, 2)]
        wrong += [("tell", number, C) for number in (*NO_NUMBERS, 2)]
        wrong += [(word, 0, thing) for word in ("put", "tell") for thing in NO_ROWS]
        for deed in wrong:
            house = House((A, B))
            self.assert_halted(1, 1, house, [("tell", 0, A), deed, deed])
            self.assert_halted(1, 0, house, [("drop", 0), ("tell", 1, deed)], keep=False)
            self.assertEqual(house.text(), (A, B))

    def test_a_twenty_fifth_row_halts(self):
        house = House(FULL[:22])
        self.assert_halted(2, 0, house, [("put", 0, A), ("put", 0, B), ("put", 0, C)], keep=False)
        self.assertEqual(house.text(), FULL[:22])
        self.assert_halted(2, 2, house, [("put", 0, A), ("put", 0, B), ("put", 0, C)])
        self.assertEqual(house.text(), (B, A) + FULL[:22])
        self.assertEqual(house.batch([("drop", 0), ("put", 0, C)]), [B, None])

    def test_no_list(self):
        house = House((A, B))
        for thing in (None, True, False, 0, 1, 1.5, "", "drop", (), (("drop", 0),), ("drop", 0), {}):
            for keep in (True, False):
                with self.assertRaises(BadDeed) as caught:
                    house.batch(thing, keep=keep)
                self.assertEqual(caught.exception.number, 0)
        self.assertEqual((house.text(), house.told()), ((A, B), []))

    def test_no_deed(self):
        house = House((A, B))
        wrong = (
            *NO_SUCH_THINGS, (), ("put",), ("put", 0), ("put", 0, C, C), ("drop",), ("drop", 0, C), ("tell", 0),
            ("tell", 0, C, 0), ["drop", 0], ("ask", A), ("text",), ("told",), ("begun",), ("Drop", 0), (None, 0),
            (["drop"], 0), (("drop",), 0), (1, 0), (True, 0, C), "put", {"put": 0}, A, B, ("batch", []), ("", 0),
        )
        for deed in wrong:
            for keep in (True, False):
                for at in (0, 1, 2):
                    deeds = [("drop", 0), ("drop", 0)]
                    deeds[at:at] = [deed, ("drop", 99), None][:3 - at]
                    with self.assertRaises(BadDeed) as caught:
                        house.batch(deeds, keep=keep)
                    self.assertEqual(caught.exception.number, at)
        self.assertEqual((house.text(), house.told(), house.is_idle()), ((A, B), [], True))

    def test_no_deed_is_refused_ahead_of_all_deeds(self):
        house = House((A, B))
        with self.assertRaises(BadDeed) as caught:
            house.batch([("drop", 99), ("drop", 0), ("drop",)])
        self.assertEqual(caught.exception.number, 2)
        self.assertEqual((house.text(), house.told()), ((A, B), []))

    def test_deeds_are_not_changed_and_may_be_changed_later(self):
        house = House((A,))
        deeds = [("put", 1, B), ("drop", 0)]
        told = house.batch(deeds)
        self.assertEqual(deeds, [("put", 1, B), ("drop", 0)])
        deeds.clear()
        told.clear()
        self.assertEqual((house.text(), house.told()), ((B,), ["begun", "put", "drop", "ended"]))

    def test_keep_is_handed_in_by_its_name(self):
        with self.assertRaises(TypeError):
            House(()).batch([], True)

    def test_is_idle(self):
        house = House((A,))
        self.assertIs(house.is_idle(), True)
        house.batch([("drop", 0)])
        self.assertIs(house.is_idle(), True)

    def test_is_not_idle_while_a_batch_is_under_way(self):
        seen = []

        class Watched(House):
            def drop(self, number):
                seen.append(self.is_idle())
                return House.drop(self, number)

        house = Watched((A,))
        self.assert_halted(1, 1, house, [("drop", 0), ("drop", 0)])
        self.assertEqual(seen, [False, False])
        self.assertIs(house.is_idle(), True)


class Interface(unittest.TestCase):
    def test_methods_stand_in_the_class_itself(self):
        listed = {
            "text": "(self)", "ask": "(self, saying)", "put": "(self, number, row)", "drop": "(self, number)",
            "tell": "(self, number, row)", "kept": "(self)", "turned": "(self)",
            "batch": "(self, deeds, *, keep=True)", "told": "(self)", "is_idle": "(self)", "__init__": "(self, rows)",
        }
        for name, arguments in listed.items():
            self.assertEqual(str(inspect.signature(vars(House)[name])), arguments, name)

    def test_all_is_asked_as_outside_of_a_house(self):
        house = House((A, B, C))
        for saying in (A, ("is", "a", "l"), ("is", "b", "l"), ("has", "a", "t", "b")):
            self.assertEqual(house.ask(saying), ask((A, B, C), saying))


if __name__ == "__main__":
    unittest.main()
