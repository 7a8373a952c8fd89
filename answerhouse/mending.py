"""What to leave out of a text that clashes, what may go, and what hangs on a row."""

from answerhouse.bearing import clashes, follows
from answerhouse.rows import check_number, check_text, names_of
from answerhouse.rules import Rules, all_results


def mended(rows):
    """Tell the fewest rows without which nothing clashes, of several such lots the first."""
    lots = clashes(rows)
    many = fewest(lots)
    left_out = []
    for number in range(len(rows)):
        rest = without(lots, number)
        # The first number with which the fewest still suffice goes on with the first of such lots.
        if len(rest) < len(lots) and suffice(many - len(left_out) - 1, rest):
            left_out.append(number)
            lots = rest
    return tuple(left_out)


def without(lots, number):
    """List the lots that a row is not in."""
    return [lot for lot in lots if number not in lot]


def fewest(lots):
    """Tell how many rows must be left out at least, so that none of the lots is whole."""
    many = 0
    while not suffice(many, lots):
        many += 1
    return many


def suffice(many, lots):
    """Tell whether so many rows can be left out that none of the lots is whole."""
    if count_apart(lots) > many:
        return False
    if not lots:
        return True
    shortest = min(lots, key=len)
    return any(suffice(many - 1, without(lots, number)) for number in shortest)


def count_apart(lots):
    """Count lots, taken as they come, of which no two have a row in common: each needs a row of its own."""
    taken = {}
    many = 0
    for lot in lots:
        if not any(number in taken for number in lot):
            many += 1
            taken.update({number: True for number in lot})
    return many


def trusted(rows):
    """List all sayings that follow without all rows that are in a least lot that clashes, rising."""
    clashing = {number: True for lot in clashes(rows) for number in lot}
    return follows(tuple([row for number, row in enumerate(rows) if number not in clashing]))


def needless(rows):
    """List the rows without any one of which the same follows and something clashes or not, as ahead."""
    check_text(rows)
    whole = results_of(rows)
    return [number for number in range(len(rows)) if results_of(left(rows, number)) == whole]


def results_of(rows):
    """Tell a dict of all sayings that follow from rows, and of CLASH if they clash."""
    return all_results(Rules(rows, names_of(rows)))


def left(rows, number):
    """Tell a text without one of its rows."""
    return rows[:number] + rows[number + 1:]


def hanging(rows, number):
    """List all sayings that follow, and would not without a row, rising."""
    check_text(rows)
    check_number(number, len(rows))
    return only_first(rows, left(rows, number))


def parted(rows, other):
    """Tell of two texts the sayings that follow from the first alone, and from the second alone, rising."""
    check_text(rows)
    check_text(other)
    return only_first(rows, other), only_first(other, rows)


def only_first(rows, other):
    """List the sayings that follow from the first of two texts and not from the second, rising."""
    known = results_of(other)
    return [saying for saying in follows(rows) if saying not in known]
