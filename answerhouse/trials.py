"""Trials: what would come of a text if more sayings were told beside its rows.

A way is a tuple of sayings that are told together. Many ways are tried at once: the way
of number k stands in the bit k.
"""

from itertools import combinations

from answerhouse.lots import Search, masks_of
from answerhouse.rules import CLASH, Rules, all_results

# So many ways are tried at once: each saying then takes a number of as many bits.
BATCH = 8192


def first_bits(ways):
    """Tell for each saying the bits of the ways that tell it."""
    bits = {}
    for at, way in enumerate(ways):
        for saying in way:
            bits[saying] = bits.get(saying, 0) | 1 << at
    return bits


class Trial:
    """A text on which ways are tried."""

    def __init__(self, rows, names):
        self.rules = Rules(rows, names)
        self.base = all_results(self.rules)
        self.clashing = masks_of(self.rules, (), CLASH)

    def bits(self, ways):
        """Tell for each saying, and CLASH, the ways by which it comes with help of what they tell."""
        bits = first_bits(ways)
        waiting = list(bits)
        while waiting:
            saying = waiting.pop()
            for _, first, second, result in self.rules.leads(saying):
                other = second if first == saying else first
                more = bits[saying]
                # What follows from the rows already is there by each way.
                if other is not None and other not in self.base:
                    more = more & bits.get(other, 0)
                known = bits.get(result, 0)
                if more | known != known:
                    bits[result] = more | known
                    waiting.append(result)
        return bits

    def other_lots_clash(self, way):
        """Tell whether lots clash by a way, of which CLASH comes, that do not without it."""
        # Where nothing clashed ahead, any clash is a new one.
        return CLASH not in self.base or Search(self.rules, way).finds_other(CLASH, self.clashing)

    def disturbing(self, sayings):
        """Tell a dict of those of the sayings by which, each told alone, other lots clash."""
        found = {}
        for start in range(0, len(sayings), BATCH):
            ways = [(saying,) for saying in sayings[start:start + BATCH]]
            clashing = self.bits(ways).get(CLASH, 0)
            for at, way in enumerate(ways):
                if clashing >> at & 1 and self.other_lots_clash(way):
                    found[way[0]] = True
        return found

    def first_fit(self, ways, goal):
        """Find the first way by which a goal follows and the same lots clash, or None."""
        bits = self.bits(ways)
        following = bits.get(goal, 0)
        clashing = bits.get(CLASH, 0)
        for at, way in enumerate(ways):
            if following >> at & 1 and not (clashing >> at & 1 and self.other_lots_clash(way)):
                return way
        return None

    def first_way(self, sayings, many, goal):
        """Find the first way of so many of the sayings that fits, or None."""
        ways = []
        for way in combinations(sayings, many):
            ways.append(way)
            if len(ways) == BATCH:
                best = self.first_fit(ways, goal)
                if best is not None:
                    return best
                ways = []
        return self.first_fit(ways, goal)

    def helpful(self, sayings, goal):
        """List those of the sayings from which a chain of leads goes to a goal."""
        ahead = {}
        for saying in sayings:
            for _, _, _, result in self.rules.leads(saying):
                ahead.setdefault(result, []).append(saying)
        found = {goal: True}
        waiting = [goal]
        while waiting:
            result = waiting.pop()
            for saying in ahead.get(result, []):
                if saying not in found:
                    found[saying] = True
                    waiting.append(saying)
        return [saying for saying in sayings if saying in found and saying != goal]
