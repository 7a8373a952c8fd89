"""The refusals of answerhouse."""


class AnswerError(ValueError):
    """Any refusal."""


class BadRow(AnswerError):
    """What should be a row, or a text of rows, is none."""

    def __init__(self, number):
        super().__init__("no row, or no text of at most 24 rows")
        self.number = number


class BadSaying(AnswerError):
    """What should be a saying, or a question, is none."""


class BadCount(AnswerError):
    """No such word to answer by, or no such number of sayings."""


class BadSteps(AnswerError):
    """A step that can't be."""

    def __init__(self, number):
        super().__init__("no step, or no list of at most 200 steps")
        self.number = number


class NoRow(AnswerError):
    """No row has such a number."""


class NoFollow(AnswerError):
    """The saying does not follow."""


class BadDeed(AnswerError):
    """What should be a deed, or a list of deeds, is none."""

    def __init__(self, number):
        super().__init__("no deed, or no list of deeds")
        self.number = number


class Halted(AnswerError):
    """A deed of a batch was refused."""

    def __init__(self, number, done):
        super().__init__("a deed of the batch was refused")
        self.number = number
        self.done = done


class BadText(AnswerError):
    """A row of a written text is no sentence."""

    def __init__(self, row):
        super().__init__("no sentence")
        self.row = row
