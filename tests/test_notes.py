"""[14]: texts written as sentences, and read."""

import random
import unittest

from answerhouse.errors import BadRow, BadText
from answerhouse.notes import read, written
from tests.made import NO_SUCH_THINGS, made_text
from tests.test_texts import BARRED

SENTENCES = {
    ("is", "n", "k"): "n is k.",
    ("isnt", "n", "k"): "n isnt k.",
    ("has", "n", "t", "m"): "n has t to m.",
    ("hasnt", "n", "t", "m"): "n hasnt t to m.",
    ("all", "k", "l"): "all k are l.",
    ("no", "k", "l"): "no k are l.",
    ("each", "k", "t", "m"): "each k has t to m.",
    ("who", "t", "k", "l"): "who has t to some k is l.",
    ("turned", "t", "s"): "t turned is s.",
    ("on", "t"): "t goes on.",
    ("from", "t", "k"): "t comes from k.",
    ("to", "t", "k"): "t leads to k.",
    ("under", "t", "s"): "t is also s.",
}
TWENTY_FOUR = tuple(("is", "a", letter) for letter in "bcdefghijklmnopqrstuvwxy")


class Written(unittest.TestCase):
    def test_each_sentence(self):
        for row, sentence in SENTENCES.items():
            self.assertEqual(written((row,)), sentence)
            self.assertEqual(read(sentence), (row,))

    def test_one_sentence_in_a_row(self):
        text = "\n".join(SENTENCES.values())
        self.assertEqual(written(tuple(SENTENCES)), text)
        self.assertEqual(read(text), tuple(SENTENCES))

    def test_no_rows_are_the_empty_text(self):
        self.assertEqual(written(()), "")
        self.assertEqual(read(""), ())

    def test_longest_and_equal_words(self):
        rows = (("who", "abcdef", "zzzzzz", "abcdef"), ("each", "a", "a", "a"), ("under", "row", "under"))
        self.assertEqual(written(rows), "who has abcdef to some zzzzzz is abcdef.\neach a has a to a.\nrow is also under.")
        self.assertEqual(read(written(rows)), rows)

    def test_what_is_written_is_read_to_the_same(self):
        chance = random.Random(31)
        for _ in range(300):
            rows = made_text(chance, 24)
            self.assertEqual(read(written(rows)), rows)
            self.assertEqual(written(read(written(rows))), written(rows))
        self.assertEqual(read(written(TWENTY_FOUR)), TWENTY_FOUR)

    def test_kinds_of_values(self):
        for rows in ((), TWENTY_FOUR):
            self.assertIsInstance(written(rows), str)
            self.assertIsInstance(read(written(rows)), tuple)

    def test_what_is_no_text_of_rows(self):
        for thing in NO_SUCH_THINGS:
            with self.assertRaises(BadRow) as caught:
                written(thing)
            self.assertEqual(caught.exception.number, 0)
        for rows, number in ((TWENTY_FOUR + (("on", "t"),), 24), (TWENTY_FOUR[:5] + (("on",), None), 5)):
            with self.assertRaises(BadRow) as caught:
                written(rows)
            self.assertEqual(caught.exception.number, number)


class Read(unittest.TestCase):
    def assert_bad_text(self, row, text):
        with self.assertRaises(BadText) as caught:
            read(text)
        self.assertEqual(caught.exception.row, row, text)

    def test_no_sentences(self):
        wrong = (
            " ", ".", "a", "a is k", "a is k..", "a is k .", "a is k. ", " a is k.", "a  is k.", "a is  k.", "a\tis k.",
            "a is k.b is k.", "a is k. b is k.", "a is k!", "a is k,", ".a is k", "a. is k.", "a is .k", "a.is k.",
            "a is k.\r", "is a k.", "a is.", "is k.", "a is k l.", "a is not k.", "A is k.", "a Is k.", "a is K.",
            "a has t.", "a has t to.", "a has t b.", "a has t to b c.", "has t to b.", "all k is l.", "all k are.",
            "each k has t.", "each k has t to some l.", "who has t to k is l.", "who has t to some k are l.",
            "t turned s.", "t turned also s.", "t goes.", "t goes on on.", "goes on.", "t comes k.", "t leads k.",
            "t comes to k.", "t leads from k.", "t is also.", "also is t.", "a is a k.", "*", "* is *.", "a is *.",
            "on t.", "turned t s.", "(\"is\", \"a\", \"k\")", "a,is,k.", "abcdefg is k.", "a is abcdefg.", "a1 is k.",
            "a is \u00e9.", "a is k.\n", "\na is k.",
        )
        for sentence in wrong:
            if "\n" not in sentence:
                self.assert_bad_text(0, sentence)
                self.assert_bad_text(1, "a is k.\n" + sentence + "\nall")
        for sentence in SENTENCES.values():
            self.assert_bad_text(0, sentence[:-1])
            self.assert_bad_text(0, sentence + ".")
            self.assert_bad_text(0, sentence.replace(" ", "  ", 1))
            self.assert_bad_text(0, "  ".join(sentence.rsplit(" ", 1)))
            self.assert_bad_text(0, " " + sentence)
            self.assert_bad_text(0, sentence[:-1] + " .")

    def test_rows_without_a_sentence(self):
        self.assert_bad_text(0, "\n")
        self.assert_bad_text(0, "\na is k.")
        self.assert_bad_text(1, "a is k.\n")
        self.assert_bad_text(1, "a is k.\n\nb is k.")

    def test_words_that_are_none(self):
        for word in (*BARRED, "abcdefg", "A", "a1", "a-b", "_", "", "1"):
            for row, sentence in SENTENCES.items():
                for letter in sorted(set(row[1:])):
                    words = [word if old == letter else old for old in sentence[:-1].split(" ")]
                    self.assert_bad_text(2, "a is b.\nb is c.\n" + " ".join(words) + ".\n.")

    def test_twenty_four_rows_and_a_twenty_fifth(self):
        text = written(TWENTY_FOUR)
        self.assertEqual(read(text), TWENTY_FOUR)
        for more in ("\na is z.", "\na is z.\na is z."):
            with self.assertRaises(BadRow) as caught:
                read(text + more)
            self.assertEqual(caught.exception.number, 24)

    def test_no_sentence_is_refused_ahead_of_a_twenty_fifth_row(self):
        text = written(TWENTY_FOUR)
        self.assert_bad_text(24, text + "\nall")
        self.assert_bad_text(24, text + "\n")
        self.assert_bad_text(26, text + "\na is z.\na is z.\nall\nall")

    def test_what_is_no_text(self):
        for thing in (None, True, False, 0, 1, 1.5, [], ["a is k."], (), (("is", "a", "k"),), {}):
            self.assert_bad_text(0, thing)


if __name__ == "__main__":
    unittest.main()
