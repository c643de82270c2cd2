"""Slow and plain answers, straight from the document's words, to compare the program with.

Nothing here imports the program.
"""

from functools import lru_cache
from itertools import combinations, permutations


def deep(thing, levels, wrap):
    for _ in range(levels):
        thing = wrap(thing)
    return thing


# Things of every kind that may be handed in where a refusal is told of anything.
# None of them is heights, a number of houses, a lot, counts, a place, or what bars a lot.
ODD_THINGS = (
    True, False, None, "", "1", "text", "apart", " ~", "a" * 200, -1, -10, 10 ** 39, -(10 ** 39), [], [1], [0, 1],
    [(0, 1)], [[0, 1]], [True], ["apart", 0, 1], ["text", None], [()], ("text",), (None,), (True,), (False,), ((),),
    ([],), ([0, 1],), (-1,), (-1, 0), (0, -1), ("0", "1"), (("0", "1"),), ((None, None),), ((True, False),),
    ((False, True),), ((0, True),), ((False, 1),), ((0, 1), None), ((0, 1), "text"), ((0, 1), [1, 2]), ((0, 1, 2),),
    ((0,),), (((0, 1),),), (10 ** 39,), ((0, 10 ** 39),), ((-1, 0),),
    deep((), 9, lambda x: (x,)), deep([], 9, lambda x: [x]), deep(1, 10, lambda x: (x,)), deep(1, 10, lambda x: [x]),
)

NO_MANY = (0, -1, 13, 14, 10 ** 39, True, False, None, "", "3", [3], (3,), [], (), ((3,),))

NO_LOTS_OF_FOUR = ODD_THINGS + (
    0, 1, "((0, 1),)", [(0, 1), (1, 2), (2, 3)], ([0, 1], (1, 2), (2, 3)), ((0, 1), [1, 2], (2, 3)),
    ((1, 2), (0, 1), (2, 3)), ((0, 1), (2, 3), (1, 2)), ((0, 2), (0, 1)),
    ((0, 1), (0, 1), (1, 2), (2, 3)), ((0, 1), (1, 2), (2, 3), (2, 3)),
    ((0, 1), (1, 2), (2, 3), (3, 4)), ((0, 4),), ((-1, 0), (0, 1)), ((4, 5),),
    ((0, 0),), ((1, 0),), ((3, 3),), ((2, 1),), ((False, True), (1, 2), (2, 3)), ((0, True), (1, 2)),
    ((False, 1), (1, 2), (2, 3)), ((0, 1), (True, 2)), ((0, 1, 2),), ((0,),), ((),), ("01",), (0, 1), ((0, "1"),),
    ((0, None),), ((0, 1), (1, (2,))), (((0, 1), (1, 2)),),
)


def pairs_of(many):
    return list(combinations(range(many), 2))


def all_lots(many):
    """Every lot of pairs of so many houses, whether it can be or not."""
    pairs = pairs_of(many)
    return [lot for size in range(len(pairs) + 1) for lot in combinations(pairs, size)]


def sights_of(heights):
    found = []
    for one, other in pairs_of(len(heights)):
        clear = True
        for between in range(one + 1, other):
            if heights[between] > heights[one] or heights[between] > heights[other]:
                clear = False
        if clear:
            found.append((one, other))
    return tuple(found)


@lru_cache(maxsize=None)
def orders_by_lot(many):
    """All orders of heights of so many houses, each under its sights, in rising order."""
    found = {}
    for order in permutations(range(1, many + 1)):
        found.setdefault(sights_of(order), []).append(order)
    return found


def highest_of(orders):
    tops = [order.index(max(order)) for order in orders]
    return [(top, tops.count(top)) for top in sorted(set(tops))]


def higher_of(orders, one, other):
    signs = {order[one] > order[other] for order in orders}
    return {(True,): "higher", (False,): "lower"}.get(tuple(signs), "either")


def ends_of(order):
    many = len(order)
    left = tuple(k for k in range(many) if max(order[:k + 1]) == order[k])
    right = tuple(k for k in range(many) if max(order[k:]) == order[k])
    return left, right


def from_ends_of(orders):
    """The triples, gathered by the highest house; None if a highest house has several."""
    found = {}
    for order in orders:
        found.setdefault(order.index(max(order)), []).append(ends_of(order))
    told = []
    for top in sorted(found):
        if len(set(found[top])) != 1:
            return None
        left, right = found[top][0]
        told.append((left, right, len(found[top])))
    return told


def bars_of(many, lot):
    """All that bars a lot: the three sorts, each rising."""
    held = set(lot)
    apart = [("apart", one, one + 1) for one in range(many - 1) if (one, one + 1) not in held]
    cross = [
        ("cross", one, other, third, fourth)
        for one, third, other, fourth in combinations(range(many), 4)
        if (one, other) in held and (third, fourth) in held
    ]
    alone = [
        ("alone", one, other)
        for one, other in held
        if other - one > 1
        and not [k for k in range(one + 1, other) if {(one, k), (k, other)} <= held]
    ]
    return sorted(apart) + sorted(cross) + sorted(alone)


def highest_by_growing(many, lot):
    """How many orders have each highest house, for rows too long to try all orders.

    Houses are picked from the lowest up. When one is picked, those not yet picked are
    higher, so it sees just those with only picked houses between.
    """
    held = set(lot)
    ways = {frozenset(): 1}
    for _ in range(many - 1):
        grown = {}
        for lower, count in ways.items():
            for house in range(many):
                if house not in lower and fits_next(many, held, lower, house):
                    key = lower | {house}
                    grown[key] = grown.get(key, 0) + count
        ways = grown
    told = {(set(range(many)) - lower).pop(): count for lower, count in ways.items()}
    return sorted(told.items())


def fits_next(many, held, lower, house):
    for other in range(many):
        if other == house or other in lower:
            continue
        near, far = min(house, other), max(house, other)
        clear = all(k in lower for k in range(near + 1, far))
        if clear != ((near, far) in held):
            return False
    return True


@lru_cache(maxsize=None)
def lots_by_growing(many):
    """All lots that can be, rising, for rows too long to try all orders.

    A house is added at the right end of each shorter lot. It sees its neighbour, and may
    see on over it and over each next house that nobody sees over yet, as far as it goes.
    """
    if many == 1:
        return [()]
    grown = []
    for lot in lots_by_growing(many - 1):
        own = ()
        for house in range(many - 2, -1, -1):
            if not any(one < house < other for one, other in lot):
                own += ((house, many - 1),)
                grown.append(tuple(sorted(lot + own)))
    return sorted(grown)


def lots_that_fit(lots, seen, unseen):
    held, barred = set(seen), set(unseen)
    return [lot for lot in lots if held.issubset(lot) and barred.isdisjoint(lot)]


def sure_of(many, lots):
    if not lots:
        return None
    in_all = set(lots[0]).intersection(*lots)
    in_some = set().union(*lots)
    return tuple(sorted(in_all)), tuple(pair for pair in pairs_of(many) if pair not in in_some)


def known_by_orders(many, seen, unseen):
    """lots_with, orders_with, first_with and sure, of all orders gone through one by one."""
    found = orders_by_lot(many)
    lots = lots_that_fit(sorted(found), seen, unseen)
    return len(lots), sum(len(found[lot]) for lot in lots), min(lots, default=None), sure_of(many, lots)


def known_by_growing(many, seen, unseen):
    """The same for rows too long to try all orders."""
    lots = lots_that_fit(lots_by_growing(many), seen, unseen)
    orders = orders_with_by_growing(many, set(seen), set(unseen))
    return len(lots), orders, min(lots, default=None), sure_of(many, lots)


def orders_with_by_growing(many, seen, unseen):
    """How many orders have these sights, picking houses from the lowest up as above."""
    ways = {frozenset(): 1}
    for _ in range(many):
        grown = {}
        for lower, count in ways.items():
            for house in range(many):
                if house not in lower and may_be_next(many, seen, unseen, lower, house):
                    key = lower | {house}
                    grown[key] = grown.get(key, 0) + count
        ways = grown
    return sum(ways.values())


def may_be_next(many, seen, unseen, lower, house):
    rest = [other for other in range(many) if other != house and other not in lower]
    near = [max([k for k in rest if k < house], default=None), min([k for k in rest if k > house], default=None)]
    for other in rest:
        pair = (min(house, other), max(house, other))
        if pair in (unseen if other in near else seen):
            return False
    return True


def counts_of(many, lot):
    return tuple(sum(house in pair for pair in lot) for house in range(many))


def turned_lot(many, lot):
    return tuple(sorted((many - 1 - other, many - 1 - one) for one, other in lot))


def turned_houses(many, houses):
    return tuple(sorted(many - 1 - house for house in houses))
