"""All answers beside those that the document's words taken plainly give, over many made texts."""

import random
import unittest

from answerhouse.asking import against, ask, missing, which
from answerhouse.bearing import bearers, clashes, follows
from answerhouse.errors import BadSteps, NoFollow
from answerhouse.houses import House
from answerhouse.mending import hanging, mended, needless, parted, trusted
from answerhouse.papers import paper, read_steps
from tests import naive
from tests.made import made_row, made_saying, made_text

DENIALS = {"is": "isnt", "has": "hasnt"}


class AgainstNaive(unittest.TestCase):
    def test_what_follows_and_clashes(self):
        chance = random.Random(11)
        for _ in range(500):
            rows = made_text(chance, 8)
            self.assertEqual(follows(rows), naive.follows(rows), rows)
            self.assertEqual(clashes(rows), naive.clashes(rows), rows)

    def test_lots_and_words(self):
        chance = random.Random(12)
        words = set()
        for _ in range(500):
            rows = made_text(chance, 8)
            saying = made_saying(chance, rows)
            self.assertEqual(bearers(rows, saying), naive.bearers(rows, saying), (rows, saying))
            self.assertEqual(against(rows, saying), naive.against(rows, saying), (rows, saying))
            self.assertEqual(ask(rows, saying), naive.ask(rows, saying), (rows, saying))
            words.add(ask(rows, saying)[0])
        self.assertEqual(words, {"yes", "no", "both", "doubt"})

    def test_which(self):
        chance = random.Random(13)
        for _ in range(60):
            rows = made_text(chance, 6)
            saying = made_saying(chance, rows)
            question = saying[:1] + tuple(chance.choice((None, word)) for word in saying[1:])
            for answer in ("yes", "no", "both", "doubt"):
                self.assertEqual(which(rows, question, answer=answer), naive.which(rows, question, answer),
                                 (rows, question, answer))

    def test_missing(self):
        chance = random.Random(14)
        sizes = set()
        for _ in range(400):
            rows = made_text(chance, 6)
            saying = made_saying(chance, rows)
            if len(naive.sayings_of(rows, ("has", None, None, None))) > 18:
                continue
            told = missing(rows, saying, most=2)
            self.assertEqual(told, naive.missing(rows, saying, 2), (rows, saying))
            self.assertEqual(missing(rows, saying), naive.missing(rows, saying, 1), (rows, saying))
            sizes.add(None if told is None else len(told))
        self.assertEqual(sizes, {None, 0, 1, 2})

    def test_mended_and_trusted(self):
        chance = random.Random(15)
        sizes = set()
        for _ in range(400):
            rows = made_text(chance, 8)
            # Denials of what follows, so that texts clash in several ways.
            known = naive.follows(rows)
            denied = chance.sample(known, min(len(known), chance.randint(0, 4)))
            rows += tuple((DENIALS[saying[0]], *saying[1:]) for saying in denied)
            self.assertEqual(mended(rows), naive.mended(rows), rows)
            self.assertEqual(trusted(rows), naive.trusted(rows), rows)
            sizes.add(len(mended(rows)))
        self.assertGreaterEqual(sizes, {0, 1, 2, 3})

    def test_needless_hanging_and_parted(self):
        chance = random.Random(16)
        for _ in range(300):
            rows = made_text(chance, 10)
            self.assertEqual(needless(rows), naive.needless(rows), rows)
            for number in range(len(rows)):
                self.assertEqual(hanging(rows, number), naive.hanging(rows, number), (rows, number))
            other = tuple(chance.sample(rows, chance.randint(0, len(rows)))) + made_text(chance, 2)
            self.assertEqual(parted(rows, other), naive.parted(rows, other), (rows, other))

    def test_papers(self):
        chance = random.Random(17)
        lengths = set()
        for _ in range(300):
            rows = made_text(chance, 9)
            known = naive.follows(rows)
            for saying in known:
                steps = paper(rows, saying)
                self.assertIsNone(naive.first_bad_step(rows, steps), (rows, saying))
                self.assertEqual(steps[-1][0], saying)
                numbers = sorted({number for _, number, _ in steps})
                self.assertEqual(numbers, list(naive.bearers(rows, saying)[0]), (rows, saying))
                self.assertEqual(read_steps(rows, steps), (saying, numbers))
                lengths.add(len(steps))
            saying = made_saying(chance, rows)
            if saying not in known:
                with self.assertRaises(NoFollow):
                    paper(rows, saying)
        self.assertGreaterEqual(lengths, {1, 2, 3, 4, 5, 6})

    def test_steps_that_were_changed(self):
        chance = random.Random(18)
        outcomes = []
        for _ in range(2000):
            rows = made_text(chance, 9)
            known = naive.follows(rows)
            if known:
                steps = paper(rows, chance.choice(known)) + paper(rows, chance.choice(known))[:1]
                steps[chance.randrange(len(steps))] = self.made_step(chance, rows, steps)
                bad = naive.first_bad_step(rows, steps)
                if bad is None:
                    numbers = sorted({number for _, number, _ in steps})
                    self.assertEqual(read_steps(rows, steps), (steps[-1][0], numbers), (rows, steps))
                else:
                    with self.assertRaises(BadSteps) as caught:
                        read_steps(rows, steps)
                    self.assertEqual(caught.exception.number, bad, (rows, steps))
                outcomes.append(bad is None)
        self.assertGreater(outcomes.count(True), 100)
        self.assertGreater(outcomes.count(False), 100)

    def made_step(self, chance, rows, steps):
        saying, number, ahead = chance.choice(steps)
        change = chance.randrange(4)
        if change == 0:
            saying = chance.choice(naive.follows(rows))
        if change == 1:
            number = chance.randrange(-1, len(rows) + 1)
        if change == 2:
            ahead = tuple(chance.randrange(-1, len(steps) + 1) for _ in range(chance.randrange(4)))
        return saying, number, ahead

    def test_turned(self):
        chance = random.Random(19)
        turns = set()
        for _ in range(60):
            rows = made_text(chance, 6)
            house = House(rows)
            asked = []
            for _ in range(8):
                saying = made_saying(chance, house.text())
                word = house.ask(saying)[0]
                self.assertEqual(word, naive.ask(house.text(), saying)[0])
                asked.append((saying, word))
                number = chance.randint(0, len(house.text()))
                if number == len(house.text()) or chance.random() < 0.3:
                    house.put(number, made_row(chance, {"n": "abc", "k": "kl", "t": "st"}))
                else:
                    house.drop(number)
            now = [naive.ask(house.text(), saying)[0] for saying, _ in asked]
            turned = [(at, *asked[at], now[at]) for at in range(len(asked)) if asked[at][1] != now[at]]
            self.assertEqual(house.turned(), turned)
            self.assertEqual(house.kept(), asked)
            turns.update((then, word) for _, _, then, word in turned)
        self.assertGreaterEqual(len(turns), 6)


if __name__ == "__main__":
    unittest.main()
