"""All answers beside those that the document's words taken plainly give, over many made texts."""

import random
import unittest

from answerhouse.asking import against, ask, missing, which
from answerhouse.bearing import bearers, clashes, follows
from tests import naive
from tests.made import made_saying, made_text


class AgainstNaive(unittest.TestCase):
    def test_what_follows_and_clashes(self):
        chance = random.Random(11)
        for _ in range(500):
            rows = made_text(chance, 8)
            self.assertEqual(follows(rows), naive.follows(rows), rows)
            self.assertEqual(clashes(rows), naive.clashes(rows), rows)

    def test_lots_and_words(self):
        chance = random.Random(12)
        words = set()
        for _ in range(500):
            rows = made_text(chance, 8)
            saying = made_saying(chance, rows)
            self.assertEqual(bearers(rows, saying), naive.bearers(rows, saying), (rows, saying))
            self.assertEqual(against(rows, saying), naive.against(rows, saying), (rows, saying))
            self.assertEqual(ask(rows, saying), naive.ask(rows, saying), (rows, saying))
            words.add(ask(rows, saying)[0])
        self.assertEqual(words, {"yes", "no", "both", "doubt"})

    def test_which(self):
        chance = random.Random(13)
        for _ in range(60):
            rows = made_text(chance, 6)
            saying = made_saying(chance, rows)
            question = saying[:1] + tuple(chance.choice((None, word)) for word in saying[1:])
            for answer in ("yes", "no", "both", "doubt"):
                self.assertEqual(which(rows, question, answer=answer), naive.which(rows, question, answer),
                                 (rows, question, answer))

    def test_missing(self):
        chance = random.Random(14)
        sizes = set()
        for _ in range(400):
            rows = made_text(chance, 6)
            saying = made_saying(chance, rows)
            if len(naive.sayings_of(rows, ("has", None, None, None))) > 18:
                continue
            told = missing(rows, saying, most=2)
            self.assertEqual(told, naive.missing(rows, saying, 2), (rows, saying))
            self.assertEqual(missing(rows, saying), naive.missing(rows, saying, 1), (rows, saying))
            sizes.add(None if told is None else len(told))
        self.assertEqual(sizes, {None, 0, 1, 2})


if __name__ == "__main__":
    unittest.main()
