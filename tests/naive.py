"""The document's words taken plainly: all lots are tried, however long it takes."""

from itertools import combinations, product


def by_one(row, saying):
    word, rest = row[0], row[1:]
    if saying[0] == "is":
        _, one, kind = saying
        if word == "all" and rest[0] == kind:
            yield ("is", one, rest[1])
        if word == "each" and rest[0] == kind:
            yield ("has", one, rest[1], rest[2])
        return
    _, one, tie, other = saying
    if word == "turned" and rest[0] == tie:
        yield ("has", other, rest[1], one)
    if word == "under" and rest[0] == tie:
        yield ("has", one, rest[1], other)
    if word == "from" and rest[0] == tie:
        yield ("is", one, rest[1])
    if word == "to" and rest[0] == tie:
        yield ("is", other, rest[1])


def by_two(row, first, second):
    if first[0] != "has" or row[1] != first[2]:
        return
    _, one, tie, other = first
    if row[0] == "on" and second[:3] == ("has", other, tie):
        yield ("has", one, tie, second[3])
    if row[0] == "who" and second == ("is", other, row[2]):
        yield ("is", one, row[3])


def follows(rows):
    found = {row for row in rows if row[0] in ("is", "has")}
    while True:
        more = {s for row in rows for first in found for s in by_one(row, first)}
        more |= {s for row in rows for first in found for second in found for s in by_two(row, first, second)}
        if more <= found:
            return sorted(found)
        found |= more


def clash(rows):
    found = follows(rows)
    for row in rows:
        if row[0] == "isnt" and ("is", *row[1:]) in found:
            return True
        if row[0] == "hasnt" and ("has", *row[1:]) in found:
            return True
        if row[0] == "no":
            if any(s[0] == "is" and s[2] == row[1] and ("is", s[1], row[2]) in found for s in found):
                return True
    return False


def least_lots(rows, holds):
    lots = []
    for size in range(len(rows) + 1):
        for lot in combinations(range(len(rows)), size):
            if not any(set(part) <= set(lot) for part in lots) and holds([rows[k] for k in lot]):
                lots.append(lot)
    return lots


def bearers(rows, saying):
    return least_lots(rows, lambda lot: saying in follows(lot))


def clashes(rows):
    return least_lots(rows, clash)


def against(rows, saying):
    lots = least_lots(rows, lambda lot: clash([*lot, saying]))
    return [lot for lot in lots if not clash([rows[k] for k in lot])]


def ask(rows, saying):
    lots_for, lots_against = bearers(rows, saying), against(rows, saying)
    words = {(True, False): "yes", (False, True): "no", (True, True): "both", (False, False): "doubt"}
    word = words[bool(lots_for), bool(lots_against)]
    return word, (lots_for or [None])[0], (lots_against or [None])[0]


PLACES = {
    "is": "nk", "isnt": "nk", "has": "ntn", "hasnt": "ntn", "all": "kk", "no": "kk", "each": "ktn",
    "who": "tkk", "turned": "tt", "on": "t", "from": "tk", "to": "tk", "under": "tt",
}


def words_at(rows, place):
    return {word for row in rows for word, at in zip(row[1:], PLACES[row[0]]) if at == place}


def sayings_of(rows, question):
    choices = [
        words_at(rows, place) if word is None else {word}
        for word, place in zip(question[1:], PLACES[question[0]])
    ]
    return sorted((question[0], *words) for words in product(*choices))


def which(rows, question, answer):
    return [saying for saying in sayings_of(rows, question) if ask(rows, saying)[0] == answer]


def missing(rows, saying, most):
    if saying in follows(rows):
        return ()
    sayings = sayings_of(rows, ("has", None, None, None)) + sayings_of(rows, ("is", None, None))
    ahead = clashes(rows)
    for size in range(1, most + 1):
        for told in combinations([other for other in sayings if other != saying], size):
            if saying in follows([*rows, *told]):
                if least_lots(rows, lambda lot: clash([*lot, *told])) == ahead:
                    return told
    return None


def without(rows, numbers):
    return [row for number, row in enumerate(rows) if number not in numbers]


def mended(rows):
    for size in range(len(rows) + 1):
        for lot in combinations(range(len(rows)), size):
            if not clash(without(rows, lot)):
                return lot


def trusted(rows):
    return follows(without(rows, {number for lot in clashes(rows) for number in lot}))


def needless(rows):
    def told(some):
        return follows(some), clash(some)

    return [number for number in range(len(rows)) if told(without(rows, [number])) == told(rows)]


def hanging(rows, number):
    return sorted(set(follows(rows)) - set(follows(without(rows, [number]))))


def parted(rows, other):
    first, second = set(follows(rows)), set(follows(other))
    return sorted(first - second), sorted(second - first)


def goes_by(row, ahead, saying):
    if not ahead:
        return saying == row
    if len(ahead) == 1:
        return saying in by_one(row, ahead[0])
    return saying in by_two(row, *ahead)


def first_bad_step(rows, steps):
    """For steps of the right kinds of values: the number of the first that can't be, or None."""
    for at, (saying, number, ahead) in enumerate(steps):
        if not 0 <= number < len(rows) or len(ahead) > 2 or not all(0 <= other < at for other in ahead):
            return at
        if saying[0] not in ("is", "has") or not goes_by(rows[number], [steps[k][0] for k in ahead], saying):
            return at
    return None
