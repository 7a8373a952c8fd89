"""Notes: texts written as sentences, one in a row."""

from answerhouse.errors import BadRow, BadText
from answerhouse.rows import MOST_ROWS, check_text, is_row

# A star stands for each word behind the row's own, in turn.
SENTENCES = {
    "is": "* is *.",
    "isnt": "* isnt *.",
    "has": "* has * to *.",
    "hasnt": "* hasnt * to *.",
    "all": "all * are *.",
    "no": "no * are *.",
    "each": "each * has * to *.",
    "who": "who has * to some * is *.",
    "turned": "* turned is *.",
    "on": "* goes on.",
    "from": "* comes from *.",
    "to": "* leads to *.",
    "under": "* is also *.",
}


def written(rows):
    """Write a text as sentences."""
    check_text(rows)
    return "\n".join([sentence_of(row) for row in rows])


def sentence_of(row):
    """Write a row as a sentence."""
    sentence = SENTENCES[row[0]]
    for word in row[1:]:
        sentence = sentence.replace("*", word, 1)
    return sentence


def read(text):
    """Read a text that was written as sentences."""
    if not isinstance(text, str):
        raise BadText(0)
    # No rows are the empty text; split would make one sentence of it.
    sentences = text.split("\n") if text else []
    rows = []
    for number, sentence in enumerate(sentences):
        row = row_of(sentence)
        if row is None:
            raise BadText(number)
        rows.append(row)
    if len(rows) > MOST_ROWS:
        raise BadRow(MOST_ROWS)
    return tuple(rows)


def row_of(sentence):
    """Tell the row that a sentence writes, None if it is no sentence."""
    words = sentence.replace(".", "").split(" ")
    for name, form in SENTENCES.items():
        places = form.replace(".", "").split(" ")
        row = (name, *[word for word, place in zip(words, places) if place == "*"])
        # The stop and the words between are right, if the row is written to the same.
        if is_row(row) and sentence_of(row) == sentence:
            return row
    return None
