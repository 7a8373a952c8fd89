"""What rows make of sayings: what follows by them, and what clashes by them.

A lead is (first, second, result): from the first saying and the second one, or from
the first alone if the second is None, the result comes by a row.
"""

# It comes as a saying does, where something clashes: so one search finds both.
CLASH = ("clash",)


def places_of(rows):
    """Tell for each row that stands in a text, in turn, all numbers at which it stands."""
    places = {}
    for number, row in enumerate(rows):
        places.setdefault(row, []).append(number)
    return places


def leads_from_kind(row, saying, names):
    """List the leads by a row in which a saying by is has part."""
    _, one, kind = saying
    word = row[0]
    if word == "isnt" and row[1:] == (one, kind):
        return [(saying, None, CLASH)]
    if word == "no" and kind in row[1:]:
        other = row[2] if row[1] == kind else row[1]
        return [(saying, None if other == kind else ("is", one, other), CLASH)]
    if word == "all" and row[1] == kind:
        return [(saying, None, ("is", one, row[2]))]
    if word == "each" and row[1] == kind:
        return [(saying, None, ("has", one, row[2], row[3]))]
    if word == "who" and row[2] == kind:
        return [(("has", name, row[1], one), saying, ("is", name, row[3])) for name in names]
    return []


def leads_on(saying, names):
    """List the leads by an on row in which a saying by has, of the row's tie, has part."""
    _, one, tie, other = saying
    behind = [(saying, ("has", other, tie, name), ("has", one, tie, name)) for name in names]
    ahead = [(("has", name, tie, one), saying, ("has", name, tie, other)) for name in names]
    return behind + ahead


def leads_from_tie(row, saying, names):
    """List the leads by a row in which a saying by has has part."""
    _, one, tie, other = saying
    word = row[0]
    if word == "hasnt" and row[1:] == (one, tie, other):
        return [(saying, None, CLASH)]
    if row[1] != tie:
        return []
    if word == "on":
        return leads_on(saying, names)
    if word == "who":
        return [(saying, ("is", other, row[2]), ("is", one, row[3]))]
    if word == "turned":
        return [(saying, None, ("has", other, row[2], one))]
    if word == "under":
        return [(saying, None, ("has", one, row[2], other))]
    if word == "from":
        return [(saying, None, ("is", one, row[2]))]
    if word == "to":
        return [(saying, None, ("is", other, row[2]))]
    return []


def leads_by(row, saying, names):
    """List the leads by a row in which a saying has part, the others speaking of names."""
    if saying[0] == "is":
        return leads_from_kind(row, saying, names)
    if saying[0] == "has":
        return leads_from_tie(row, saying, names)
    return []


class Rules:
    """The rows of a text, each but once, and what they make of each saying.

    No least lot has a row twice: so what is searched needs only one of the places at
    which a row stands, and the others may stand for it in what is told.
    """

    def __init__(self, rows, names):
        self.rows = list(places_of(rows))
        self.names = names
        self.known = {}

    def leads(self, saying):
        """List (row's number, first, second, result) for all leads in which a saying has part."""
        if saying not in self.known:
            self.known[saying] = self.worked_out(saying)
        return self.known[saying]

    def worked_out(self, saying):
        """Work out the leads, without those that tell just what they are from."""
        found = []
        for number, row in enumerate(self.rows):
            for first, second, result in leads_by(row, saying, self.names):
                if result != first and result != second:
                    found.append((number, first, second, result))
        return found


def all_results(rules):
    """Tell a dict of all sayings that follow from the rows, and of CLASH if they clash."""
    found = {}
    waiting = [row for row in rules.rows if row[0] in ("is", "has")]
    while waiting:
        saying = waiting.pop()
        if saying not in found:
            found[saying] = True
            for _, first, second, result in rules.leads(saying):
                other = second if first == saying else first
                if other is None or other in found:
                    waiting.append(result)
    return found
