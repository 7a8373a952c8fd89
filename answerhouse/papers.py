"""Papers: steps by which a reader goes from rows to a saying."""

from heapq import heappop, heappush

from answerhouse.bearing import bearers
from answerhouse.errors import BadSteps, NoFollow
from answerhouse.lots import size_of
from answerhouse.rows import check_text, is_number, is_saying, names_of
from answerhouse.rules import Rules, leads_by

MOST_STEPS = 200


def paper(rows, saying):
    """List steps that lead to a saying by just the rows of the first of its bearers."""
    lots = bearers(rows, saying)
    if not lots:
        raise NoFollow("the saying does not follow")
    lot = lots[0]
    used = [rows[number] for number in lot]
    reasons = Reasons(Rules(used, names_of(used)))
    reasons.seek(saying)
    return [(told, lot[by], ahead) for told, by, ahead in reasons.steps(saying)]


def read_steps(rows, steps):
    """Tell (the last saying, the numbers of all rows used) of steps that go by the rows of a text."""
    check_text(rows)
    check_steps(rows, steps)
    return steps[-1][0], sorted({number for _, number, _ in steps})


def check_steps(rows, steps):
    """Refuse what are no steps by the rows of a text."""
    if not isinstance(steps, list) or not steps:
        raise BadSteps(0)
    for at in range(len(steps)):
        if at == MOST_STEPS or not can_be(rows, steps, at):
            raise BadSteps(at)


def can_be(rows, steps, at):
    """Tell whether a step is one, all ahead of it being steps."""
    step = steps[at]
    if not isinstance(step, tuple) or len(step) != 3:
        return False
    saying, number, ahead = step
    if not is_saying(saying) or not is_number(number, len(rows)):
        return False
    if not isinstance(ahead, tuple) or len(ahead) > 2 or not all(is_number(other, at) for other in ahead):
        return False
    return comes_by(rows[number], [steps[other][0] for other in ahead], saying)


def comes_by(row, ahead, saying):
    """Tell whether a saying is a row, none being ahead, or comes by it from the one or two ahead."""
    if not ahead:
        return saying == row
    if len(ahead) == 1:
        return (ahead[0], None, saying) in leads_by(row, ahead[0], [])
    return (ahead[0], ahead[1], saying) in leads_by(row, ahead[0], names_of(ahead))


class Reasons:
    """For each saying that comes of rows by what it comes: a row, and none, one or two sayings ahead.

    What needs the fewest sayings is taken first, so that papers stay short.
    """

    def __init__(self, rules):
        self.rules = rules
        # For each saying that was taken, in turn, (row's number, sayings ahead).
        self.reasons = {}
        # For each of them as the bits of a number the places, in that turn, of all it needs, itself too.
        self.needs = {}
        self.queue = []
        for number, row in enumerate(rules.rows):
            if is_saying(row):
                self.put(row, number, ())

    def seek(self, goal):
        """Take sayings until a goal that follows is taken."""
        while goal not in self.reasons:
            _, saying, number, ahead = heappop(self.queue)
            if saying not in self.reasons:
                self.take(saying, number, ahead)

    def needs_of(self, ahead):
        """Tell what some sayings that were taken need together."""
        needed = 0
        for saying in ahead:
            needed = needed | self.needs[saying]
        return needed

    def put(self, saying, number, ahead):
        """Let a saying wait, if all that is ahead of it was taken."""
        if all(other in self.needs for other in ahead):
            heappush(self.queue, (size_of(self.needs_of(ahead)), saying, number, ahead))

    def take(self, saying, number, ahead):
        """Keep by what a saying comes, and put what comes of it."""
        self.needs[saying] = self.needs_of(ahead) | 1 << len(self.reasons)
        self.reasons[saying] = (number, ahead)
        for by, first, second, result in self.rules.leads(saying):
            self.put(result, by, (first,) if second is None else (first, second))

    def steps(self, goal):
        """List the steps to a goal that was taken."""
        found = []
        places = {}
        for at, saying in enumerate(self.reasons):
            if self.needs[goal] >> at & 1:
                number, ahead = self.reasons[saying]
                places[saying] = len(found)
                found.append((saying, number, tuple([places[other] for other in ahead])))
        return found
