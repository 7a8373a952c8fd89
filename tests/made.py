"""Texts and sayings made from a fixed seed, and wrong things to hand in."""

from tests.naive import PLACES

VOCABULARIES = (
    {"n": "abc", "k": "kl", "t": "st"},
    {"n": "ab", "k": "abk", "t": "a"},
    {"n": "abcd", "k": "k", "t": "t"},
    {"n": "abc", "k": "klm", "t": "stu"},
)

# Neither texts nor rows nor words nor counts.
NO_SUCH_THINGS = (None, True, False, 0, 1, -1, 3.5, "", "is", "isak", [], ["is", "a", "k"], {}, (1,), ([],), (None,))

# What has nearly the form of a row.
NO_ROWS = NO_SUCH_THINGS + (
    (), ("is",), ("is", "a"), ("is", "a", "k", "k"), ("has", "a", "t"), ("on", "t", "t"), ("on",), ("all", "k"),
    ("each", "k", "t"), ("who", "t", "k"), ("turned", "t"), ("under", "t"), ("from", "t"), ("to", "t"), ("no", "k"),
    ("goes", "t"), ("also", "t", "s"), ("IS", "a", "k"), ("", "a", "k"), (None, "a", "k"), (["is"], "a", "k"),
    ("is", "A", "k"), ("is", "a1", "k"), ("is", "a b", "k"), ("is", "", "k"), ("is", "abcdefg", "k"),
    ("is", "all", "k"), ("is", "a", "who"), ("is", "a\n", "k"), ("is", "\u00e4", "k"), ("is", None, "k"),
    ("is", ["a"], "k"), ("is", 1, "k"), ("is", "a", True), ("is", ("a",), "k"),
)


def made_row(chance, vocabulary):
    word = chance.choice(["is", "is", "has", "has", "has", "all", "each", "on", *PLACES])
    return (word, *(chance.choice(vocabulary[place]) for place in PLACES[word]))


def made_text(chance, most):
    vocabulary = chance.choice(VOCABULARIES)
    return tuple(made_row(chance, vocabulary) for _ in range(chance.randint(0, most)))


def made_saying(chance, rows):
    """Mostly of the rows' own words, so that rows have something to tell of it."""
    names = sorted({word for row in rows for word, place in zip(row[1:], PLACES[row[0]]) if place == "n"}) or ["a"]
    word, place, words = chance.choice((("is", "k", "k"), ("has", "t", "t")))
    told = sorted({w for row in rows for w, at in zip(row[1:], PLACES[row[0]]) if at == place}) or [words]
    if word == "is":
        return ("is", chance.choice(names), chance.choice(told))
    return ("has", chance.choice(names), chance.choice(told), chance.choice(names))
