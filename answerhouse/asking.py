"""Questions: sayings that are answered by the rows for them and the rows against them."""

from answerhouse.bearing import bearers
from answerhouse.errors import BadCount
from answerhouse.lots import as_lots, masks_of
from answerhouse.rows import check_question, check_saying, check_text, fillings, is_number, names_of
from answerhouse.rules import CLASH, Rules
from answerhouse.trials import Trial

MOST_MISSING = 2

# For each word whether rows bear a saying, and whether rows are against it.
ANSWERS = {
    "yes": (True, False),
    "no": (False, True),
    "both": (True, True),
    "doubt": (False, False),
}


def ask(rows, saying):
    """Tell (word, the first lot for a saying, the first lot against it), None for no lot."""
    lots_for = bearers(rows, saying)
    lots_against = against(rows, saying)
    word = word_of(len(lots_for) > 0, len(lots_against) > 0)
    return word, first_of(lots_for), first_of(lots_against)


def word_of(borne, opposed):
    """Tell the word for what rows bear or not, and are against or not."""
    if borne:
        return "both" if opposed else "yes"
    return "no" if opposed else "doubt"


def first_of(lots):
    """Tell the first lot, None if there is none."""
    return lots[0] if lots else None


def against(rows, saying):
    """List all least lots of rows that are against a saying, the fewest first."""
    check_text(rows)
    check_saying(saying)
    rules = Rules(rows, names_of((*rows, saying)))
    alone = masks_of(rules, (), CLASH)
    beside = masks_of(rules, (saying,), CLASH)
    return as_lots([mask for mask in beside if mask not in alone], rows)


def which(rows, question, *, answer="yes"):
    """List all sayings of a question that are answered by a word, rising."""
    check_text(rows)
    check_question(question)
    if not isinstance(answer, str) or answer not in ANSWERS:
        raise BadCount("no word to answer by")
    borne, opposed = ANSWERS[answer]
    sayings = fillings(question, rows)
    trial = Trial(rows, names_of((*rows, *sayings)))
    left = [saying for saying in sayings if (saying in trial.base) == borne]
    disturbing = trial.disturbing(left)
    return [saying for saying in left if (saying in disturbing) == opposed]


def words_of(rows, sayings):
    """Tell a dict of the words by which a text answers sayings."""
    trial = Trial(rows, names_of((*rows, *sayings)))
    disturbing = trial.disturbing(sayings)
    return {saying: word_of(saying in trial.base, saying in disturbing) for saying in sayings}


def missing(rows, saying, *, most=1):
    """Tell the fewest sayings with which a saying would follow, None if more than most."""
    check_text(rows)
    check_saying(saying)
    if not is_number(most, MOST_MISSING + 1):
        raise BadCount("no number of sayings from 0 to 2")
    trial = Trial(rows, names_of(rows))
    if saying in trial.base:
        return ()
    for many in range(1, most + 1):
        way = trial.first_way(worth_telling(rows, trial, saying, many), many, saying)
        if way is not None:
            return way
    return None


def worth_telling(rows, trial, saying, many):
    """List the sayings that a way of the fewest, so many, may be made of, rising."""
    told = fillings(("has", None, None, None), rows) + fillings(("is", None, None), rows)
    # What follows already, or leads nowhere, could be left out of a way.
    fresh = [other for other in trial.helpful(told, saying) if other not in trial.base]
    if many == 1:
        return fresh
    # What disturbs alone disturbs also with others; what fits alone would have been told.
    disturbing = trial.disturbing(fresh)
    return [other for other in fresh if other not in disturbing]
