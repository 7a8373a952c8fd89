"""What follows from a text, and the least lots of rows that bear it or that clash."""

from answerhouse.lots import as_lots, masks_of
from answerhouse.rows import check_saying, check_text, names_of
from answerhouse.rules import CLASH, Rules, all_results


def follows(rows):
    """List all sayings that follow from a text, rising."""
    check_text(rows)
    found = all_results(Rules(rows, names_of(rows)))
    return sorted([saying for saying in found if saying != CLASH])


def bearers(rows, saying):
    """List all least lots of rows from which a saying follows, the fewest first."""
    check_text(rows)
    check_saying(saying)
    return lots_of(rows, saying)


def clashes(rows):
    """List all least lots of rows that clash, the fewest first."""
    check_text(rows)
    return lots_of(rows, CLASH)


def lots_of(rows, result):
    """List all least lots of rows from which a saying, or CLASH, comes."""
    return as_lots(masks_of(Rules(rows, names_of(rows)), (), result), rows)
