"""Words, rows and sayings: their forms, and the words that rows tell of."""

from answerhouse.errors import BadRow, BadSaying, NoRow

MOST_ROWS = 24
LONGEST_WORD = 6
LETTERS = "abcdefghijklmnopqrstuvwxyz"
BARRED = (
    "is", "isnt", "has", "hasnt", "to", "all", "are", "no", "each", "who", "some",
    "turned", "goes", "on", "comes", "from", "leads", "also",
)

# What stands behind each row's word.
FORMS = {
    "is": ("name", "kind"),
    "isnt": ("name", "kind"),
    "has": ("name", "tie", "name"),
    "hasnt": ("name", "tie", "name"),
    "all": ("kind", "kind"),
    "no": ("kind", "kind"),
    "each": ("kind", "tie", "name"),
    "who": ("tie", "kind", "kind"),
    "turned": ("tie", "tie"),
    "on": ("tie",),
    "from": ("tie", "kind"),
    "to": ("tie", "kind"),
    "under": ("tie", "tie"),
}


def is_word(word):
    """Tell whether something is a word."""
    if not isinstance(word, str) or not 1 <= len(word) <= LONGEST_WORD or word in BARRED:
        return False
    return all(letter in LETTERS for letter in word)


def is_row(row):
    """Tell whether something is a row."""
    if not isinstance(row, tuple) or not row or not isinstance(row[0], str) or row[0] not in FORMS:
        return False
    return len(row) == 1 + len(FORMS[row[0]]) and all(is_word(word) for word in row[1:])


def is_saying(row):
    """Tell whether something is a saying."""
    return is_row(row) and row[0] in ("is", "has")


def is_question(question):
    """Tell whether something is a saying in which None may stand for words."""
    if not isinstance(question, tuple):
        return False
    # Any word serves for an open place; it is no row's word, so that None can't be one.
    return is_saying(tuple(["a" if word is None else word for word in question]))


def is_number(number, many):
    """Tell whether something is a number from 0 to below many."""
    return isinstance(number, int) and not isinstance(number, bool) and 0 <= number < many


def check_text(rows):
    """Refuse what is no text."""
    if not isinstance(rows, tuple):
        raise BadRow(0)
    for number, row in enumerate(rows):
        if number == MOST_ROWS or not is_row(row):
            raise BadRow(number)


def check_saying(saying):
    """Refuse what is no saying."""
    if not is_saying(saying):
        raise BadSaying("no saying")


def check_question(question):
    """Refuse what is no question."""
    if not is_question(question):
        raise BadSaying("no question")


def check_number(number, many):
    """Refuse what is no number from 0 to below many."""
    if not is_number(number, many):
        raise NoRow("no row of such a number")


def told_of(rows, place):
    """List the words that stand in rows as names, as kinds or as ties, rising."""
    return sorted({word for row in rows for word, at in zip(row[1:], FORMS[row[0]]) if at == place})


def names_of(rows):
    """List the names that stand in rows, rising."""
    return told_of(rows, "name")


def fillings(question, rows):
    """List the sayings that come of a question by the words that rows tell of, rising."""
    found = [(question[0],)]
    for word, place in zip(question[1:], FORMS[question[0]]):
        choices = told_of(rows, place) if word is None else [word]
        found = [(*ahead, choice) for ahead in found for choice in choices]
    return found
