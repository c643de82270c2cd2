"""The orders of heights that have just the sights of a lot.

Once it is known which house is the highest, a lot that can be settles who is the
highest between any two higher houses, and so on down: each order with that highest
house obeys the same tree of higher and lower houses, and each order that obeys the
tree has the lot. So every answer here is read off one tree for each highest house.
A tree is a list: for each house, a tuple of those above it in the tree.
"""

from roofsights.checks import check_two_houses
from roofsights.errors import NoLot
from roofsights.sights import can_be


def how_many(many, lot):
    """Tell how many orders have just the sights of the lot."""
    return sum([count for house, count in highest(many, lot)])


def first_order(many, lot):
    """Tell the first order that has just the sights of the lot, None where none has."""
    if not can_be(many, lot):
        return None
    return min([first_order_of(tree_under(many, lot, top)) for top in tops(many, lot)])


def highest(many, lot):
    """Tell each house that can be the highest, and in how many orders it is."""
    if not can_be(many, lot):
        return []
    return [(top, count_orders(tree_under(many, lot, top))) for top in tops(many, lot)]


def higher(many, lot, one, other):
    """Tell whether the one house is surely "higher" than the other, or "lower", or "either"."""
    check_can_be(many, lot)
    check_two_houses(many, one, other)
    trees = [tree_under(many, lot, top) for top in tops(many, lot)]
    if all([one in tree[other] for tree in trees]):
        return "higher"
    if all([other in tree[one] for tree in trees]):
        return "lower"
    return "either"


def from_ends(many, lot):
    """Tell, for each house that can be the highest, who is seen from either end, in how many orders."""
    check_can_be(many, lot)
    trees = [tree_under(many, lot, top) for top in tops(many, lot)]
    return [(seen_from_left(tree), seen_from_right(tree), count_orders(tree)) for tree in trees]


def check_can_be(many, lot):
    if not can_be(many, lot):
        raise NoLot("the lot must be one that can be")


def tops(many, lot):
    # Nobody sees over the highest house; in a lot that can be, any house that
    # nobody sees over can be raised to be the highest.
    return [house for house in range(many) if not is_seen_over(lot, house)]


def is_seen_over(lot, house):
    return any([one < house < other for one, other in lot])


def tree_under(many, lot, top):
    tree = [()] * many
    # The places -1 and many stand for the open ends of the row.
    gaps = [(-1, top, (top,)), (top, many, (top,))]
    while gaps:
        left, right, above = gaps.pop()
        if right - left > 1:
            house = highest_between(many, lot, left, right)
            tree[house] = above
            gaps.append((left, house, above + (house,)))
            gaps.append((house, right, above + (house,)))
    return tree


def highest_between(many, lot, left, right):
    """Tell the highest house between two that are higher than all between."""
    seen = [
        house
        for house in range(left + 1, right)
        if (left == -1 or (left, house) in lot) and (right == many or (house, right) in lot)
    ]
    # Between two houses just one is seen by both. At an open end it is the
    # farthest one that the house at the other side sees.
    return seen[-1] if right == many else seen[0]


def count_orders(tree):
    # A house is the highest of itself and those under it in just one of so many
    # orders of them, and this for each house apart from all the others.
    orders = 1
    for house in range(len(tree)):
        orders *= house + 1
    for house in range(len(tree)):
        orders //= 1 + count_under(tree, house)
    return orders


def count_under(tree, house):
    return len([above for above in tree if house in above])


def first_order_of(tree):
    # The first order has its great numbers as far behind as can be, so each
    # number, from the greatest down, goes to the last house that may have it.
    order = [0] * len(tree)
    for number in range(len(tree), 0, -1):
        order[last_free(tree, order)] = number
    return tuple(order)


def last_free(tree, order):
    return max([
        house
        for house, above in enumerate(tree)
        if order[house] == 0 and all([order[upper] > 0 for upper in above])
    ])


def seen_from_left(tree):
    return tuple([
        house
        for house in range(len(tree))
        if all([house in above for above in tree[:house]])
    ])


def seen_from_right(tree):
    return tuple([
        house
        for house in range(len(tree))
        if all([house in above for above in tree[house + 1:]])
    ])
