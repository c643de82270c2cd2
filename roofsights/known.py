"""Lots and orders of heights when some sights are known, and some are known not to be."""

from roofsights.checks import check_many_seen_and_unseen
from roofsights.gaps import made_of_trees
from roofsights.sights import all_pairs


def lots_with(many, seen, unseen):
    """Tell how many lots that can be have all of seen and none of unseen."""
    check_many_seen_and_unseen(many, seen, unseen)
    return made_of_trees(many, seen, unseen, 0, TreeCount()) or 0


def orders_with(many, seen, unseen):
    """Tell how many orders of heights have all sights of seen and none of unseen."""
    check_many_seen_and_unseen(many, seen, unseen)
    told = made_of_trees(many, seen, unseen, -1, OrderCount())
    return 0 if told is None else told[1]


def first_with(many, seen, unseen):
    """Tell the first lot that can be with all of seen and none of unseen, None where there is none."""
    check_many_seen_and_unseen(many, seen, unseen)
    return made_of_trees(many, seen, unseen, 0, FirstLot())


def sure(many, seen, unseen):
    """Tell the pairs in all lots with all of seen and none of unseen, and those in none of them."""
    check_many_seen_and_unseen(many, seen, unseen)
    found = made_of_trees(many, seen, unseen, 0, PairsFound())
    if found is None:
        return None
    in_all = [pair for pair in all_pairs(many) if found.get(pair, False)]
    in_none = [pair for pair in all_pairs(many) if pair not in found]
    return tuple(in_all), tuple(in_none)


class TreeCount:
    """Makes the number of trees."""

    def bare(self):
        return 1

    def joined(self, own, before, behind):
        return before * behind

    def chosen(self, parts):
        return sum(parts)


class OrderCount:
    """Makes a pair: the number of houses in a gap, and of orders of their heights."""

    def bare(self):
        return (0, 1)

    def joined(self, own, before, behind):
        houses_before, orders_before = before
        houses_behind, orders_behind = behind
        # The house itself is the highest; the heights at its two sides mix in any way.
        orders = orders_before * orders_behind * ways_to_mix(houses_before, houses_behind)
        return (houses_before + 1 + houses_behind, orders)

    def chosen(self, parts):
        return (parts[0][0], sum([orders for houses, orders in parts]))


def ways_to_mix(some, more):
    ways = 1
    for step in range(1, some + 1):
        ways = ways * (more + step) // step
    return ways


class FirstLot:
    """Makes the first lot.

    Of two lots the first is the one with the least pair that only one of them has, for
    both end with the same pair, and so neither is a beginning of the other. Hence the
    first lot is made of the first parts.
    """

    def bare(self):
        return ()

    def joined(self, own, before, behind):
        return tuple(sorted(before + own + behind))

    def chosen(self, parts):
        return min(parts)


class PairsFound:
    """Makes a dict of all pairs in some lot: whether each is in all of them."""

    def bare(self):
        return {}

    def joined(self, own, before, behind):
        beside = {pair: True for pair in own}
        return {pair: part[pair] for part in (before, beside, behind) for pair in part}

    def chosen(self, parts):
        return {pair: all([part.get(pair, False) for part in parts]) for part in parts for pair in part}
