"""Houses: texts that are corrected, and what was asked of them."""

from answerhouse.asking import ask, words_of
from answerhouse.errors import BadDeed, BadRow, Halted, NoRow
from answerhouse.rows import MOST_ROWS, check_number, check_text, is_row

# How many things each deed is, its word being one.
DEEDS = {"put": 3, "drop": 2, "tell": 3}


def is_deed(deed):
    """Tell whether something is a deed, whatever its number and its row are."""
    if not isinstance(deed, tuple) or not deed or not isinstance(deed[0], str):
        return False
    return deed[0] in DEEDS and len(deed) == DEEDS[deed[0]]


def check_deeds(deeds):
    """Refuse what is no list of deeds."""
    if not isinstance(deeds, list):
        raise BadDeed(0)
    for number, deed in enumerate(deeds):
        if not is_deed(deed):
            raise BadDeed(number)


class House:
    """A text as it stands, what was asked of it, and the batches by which it was corrected."""

    def __init__(self, rows):
        check_text(rows)
        self.standing = rows
        self.asked = []
        self.events = []
        self.idle = True

    def text(self):
        """Tell the text as it stands."""
        return self.standing

    def put(self, number, row):
        """Put a row in at a number."""
        check_number(number, len(self.standing) + 1)
        if not is_row(row) or len(self.standing) == MOST_ROWS:
            raise BadRow(number)
        self.standing = (*self.standing[:number], row, *self.standing[number:])

    def drop(self, number):
        """Take a row out, and tell it."""
        check_number(number, len(self.standing))
        row = self.standing[number]
        self.standing = self.standing[:number] + self.standing[number + 1:]
        return row

    def tell(self, number, row):
        """Put a row in another one's place, and tell that one."""
        check_number(number, len(self.standing))
        if not is_row(row):
            raise BadRow(number)
        other = self.standing[number]
        self.standing = (*self.standing[:number], row, *self.standing[number + 1:])
        return other

    def ask(self, saying):
        """Tell (word, the first lot for a saying, the first against it), and keep what was asked."""
        answer = ask(self.standing, saying)
        self.asked.append((saying, answer[0]))
        return answer

    def kept(self):
        """List (saying, word) of all that was asked, in turn."""
        return list(self.asked)

    def turned(self):
        """List (which, saying, the word then, the word now) of all that is answered otherwise now."""
        words = words_of(self.standing, list({saying: True for saying, _ in self.asked}))
        return [
            (which, saying, word, words[saying])
            for which, (saying, word) in enumerate(self.asked)
            if words[saying] != word
        ]

    def batch(self, deeds, *, keep=True):
        """Do deeds in turn, and list what each told; if one is refused, keep those ahead or none."""
        check_deeds(deeds)
        ahead = self.standing
        answers = []
        self.begin()
        for number, deed in enumerate(deeds):
            try:
                answers.append(self.do(deed))
            except (NoRow, BadRow):
                self.end()
                if keep is True:
                    raise Halted(number, number)
                self.standing = ahead
                raise Halted(number, 0)
        self.end()
        return answers

    def begin(self):
        """Note that a batch is under way."""
        self.idle = False
        self.events.append("begun")

    def end(self):
        """Note that no batch is under way any more."""
        self.events.append("ended")
        self.idle = True

    def do(self, deed):
        """Do one deed, note its word, and tell what it told."""
        word = deed[0]
        if word == "put":
            answer = self.put(deed[1], deed[2])
        elif word == "drop":
            answer = self.drop(deed[1])
        else:
            answer = self.tell(deed[1], deed[2])
        self.events.append(word)
        return answer

    def told(self):
        """List of each batch "begun", the word of each deed that was done, "ended"."""
        return list(self.events)

    def is_idle(self):
        """Tell whether no batch is under way."""
        return self.idle
