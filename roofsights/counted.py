"""How many lots there are, and which lots let each house see so many."""

from roofsights.checks import is_whole_within
from roofsights.errors import NoCounts, NoNumber
from roofsights.gaps import made_of_trees

MOST_NUMBER = 60
MOST_COUNTS = 8
MOST_COUNT = 7


def lots_of(number):
    """Tell how many lots of so many houses can be."""
    if not is_whole_within(number, 1, MOST_NUMBER):
        raise NoNumber("number must be a whole number from 1 to 60")
    # Lots are trees of all houses but the first one, and the highest house of a tree
    # parts the others of it in two: trees[k] is how many there are of k houses.
    trees = [1]
    while len(trees) < number:
        more = sum([before * behind for before, behind in zip(trees, trees[::-1])])
        trees.append(more)
    return trees[number - 1]


def by_counts(counts):
    """Tell how many lots let each house see so many others, and the first of them or None."""
    if not are_counts(counts):
        raise NoCounts("counts must be a tuple of 1 to 8 whole numbers from 0 to 7")
    lots = [lot for lot in all_lots(len(counts)) if counts_of(len(counts), lot) == counts]
    return len(lots), min(lots, default=None)


def are_counts(thing):
    if not isinstance(thing, tuple) or not 1 <= len(thing) <= MOST_COUNTS:
        return False
    return all([is_whole_within(part, 0, MOST_COUNT) for part in thing])


def all_lots(many):
    return made_of_trees(many, (), (), 0, LotList())


def counts_of(many, lot):
    counts = [0] * many
    for one, other in lot:
        counts[one] += 1
        counts[other] += 1
    return tuple(counts)


class LotList:
    """Makes a list of all lots."""

    def bare(self):
        return [()]

    def joined(self, own, before, behind):
        return [tuple(sorted(first + own + second)) for first in before for second in behind]

    def chosen(self, parts):
        return [lot for part in parts for lot in part]
