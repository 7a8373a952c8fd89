"""Least lots: the smallest parts of a text from which something comes.

While they are searched lots are masks: the row of number k in the rules is the bit k.
"""

from answerhouse.rules import places_of


def size_of(mask):
    """Count the rows of a mask."""
    digits = f"{mask:b}"
    return digits.count("1")


class Search:
    """All least lots for all that comes of rows, and of sayings told beside them for nothing."""

    def __init__(self, rules, told):
        self.rules = rules
        # For each saying (mask, number of the row by which it came last, None for what was told).
        self.found = {}
        self.levels = [[] for _ in range(1 + len(rules.rows))]
        for saying in told:
            self.put(saying, 0, None)
        for number, row in enumerate(rules.rows):
            if row[0] in ("is", "has"):
                self.put(row, 1 << number, None)

    def run(self):
        """Search all sizes, the fewest rows first: so what is taken is never replaced."""
        for size in range(len(self.levels)):
            self.run_level(size)

    def run_level(self, size):
        """Take all lots of a size, those included that come up while it is searched."""
        at = 0
        while at < len(self.levels[size]):
            saying, mask, last = self.levels[size][at]
            if not self.has_part(saying, mask):
                self.take(saying, mask, last)
            at += 1

    def finds_other(self, result, known):
        """Tell whether a result has a least lot that is not known, and search no further than it."""
        for size in range(len(self.levels)):
            self.run_level(size)
            if any(mask not in known for mask in self.masks(result)):
                return True
        return False

    def has_part(self, saying, mask):
        """Tell whether a lot found for a saying is a part of a mask, or is that mask."""
        for part, _ in self.found.get(saying, []):
            if part & mask == part:
                return True
        return False

    def put(self, saying, mask, last):
        """Let a lot wait for its turn."""
        if not self.has_part(saying, mask):
            self.levels[size_of(mask)].append((saying, mask, last))

    def take(self, saying, mask, last):
        """Keep a least lot, and put what comes of it."""
        self.found.setdefault(saying, []).append((mask, last))
        for number, first, second, result in self.rules.leads(saying):
            more = mask | 1 << number
            if second is None:
                self.put(result, more, number)
            elif first == saying:
                self.join_second(number, more, last, second, result)
            else:
                self.join_first(number, more, first, result)

    def join_second(self, number, mask, last, second, result):
        """Put what comes of a first saying's lot and all lots of the second."""
        # What an on row led on is not led on by it again as the first of two: the same chain
        # comes of its first link and the rest, so that not all its splittings need be searched.
        if last != number:
            for other, _ in self.found.get(second, []):
                self.put(result, mask | other, number)

    def join_first(self, number, mask, first, result):
        """Put what comes of a second saying's lot and all lots of the first."""
        for other, last in self.found.get(first, []):
            if last != number:
                self.put(result, mask | other, number)

    def masks(self, result):
        """List the least lots of a saying, or of CLASH, as masks, rising."""
        return sorted([mask for mask, _ in self.found.get(result, [])])


def masks_of(rules, told, result):
    """List the least lots of a result as masks, rising, some sayings being told for nothing."""
    search = Search(rules, told)
    search.run()
    return search.masks(result)


def lots_of_mask(mask, places):
    """List the lots of a mask: each of its rows may stand at several places."""
    lots = [()]
    for at, numbers in enumerate(places):
        if mask >> at & 1:
            lots = [(*lot, number) for lot in lots for number in numbers]
    return [tuple(sorted(lot)) for lot in lots]


def as_lots(masks, rows):
    """Turn masks into lots of a text, the fewest rows first, then as lists ascend."""
    places = list(places_of(rows).values())
    lots = [lot for mask in masks for lot in lots_of_mask(mask, places)]
    return sorted(lots, key=lambda lot: (len(lot), lot))
