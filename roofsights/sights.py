"""Heights and their sights; lots of sights, and what bars them."""

from roofsights.checks import MOST_HOUSES, check_many_and_lot, is_height, is_whole
from roofsights.errors import NoHeights


def are_heights(thing):
    """Tell of anything whether it is heights."""
    if not isinstance(thing, tuple) or not 1 <= len(thing) <= MOST_HOUSES:
        return False
    if not all([is_height(part) for part in thing]):
        return False
    return len(set(thing)) == len(thing)


def sights(heights):
    """Tell all pairs of houses who see one another, as a rising tuple."""
    if not are_heights(heights):
        raise NoHeights("heights must be a tuple of 1 to 12 unlike whole numbers from 0 to 10 ** 9")
    return sights_in_row(heights)


def sights_in_row(row):
    """Tell the sights of a row of unlike heights that may have no house."""
    return tuple([(one, other) for one, other in all_pairs(len(row)) if see_one_another(row, one, other)])


def all_pairs(many):
    return [(one, other) for one in range(many) for other in range(one + 1, many)]


def see_one_another(heights, one, other):
    limit = min(heights[one], heights[other])
    return all([height < limit for height in heights[one + 1:other]])


def can_be(many, lot):
    """Tell whether the lot is that of all sights of some heights of so many houses."""
    return what_bars(many, lot) is None


def what_bars(many, lot):
    """Tell the first of the first sort of what bars the lot, None where nothing does."""
    check_many_and_lot(many, lot)
    found = all_bars(many, lot)
    return found[0] if found else None


def bars(many, lot, thing):
    """Tell of anything whether it bars the lot."""
    check_many_and_lot(many, lot)
    if not isinstance(thing, tuple):
        return False
    # True and False equal 1 and 0 but stand for no place.
    if not all([is_whole(part) for part in thing[1:]]):
        return False
    return thing in all_bars(many, lot)


def all_bars(many, lot):
    return bars_apart(many, lot) + bars_cross(lot) + bars_alone(lot)


def bars_apart(many, lot):
    return [("apart", one, one + 1) for one in range(many - 1) if (one, one + 1) not in lot]


def bars_cross(lot):
    # A lot is rising, so these come in rising order, too.
    return [
        ("cross", one, other, third, fourth)
        for one, other in lot
        for third, fourth in lot
        if one < third < other < fourth
    ]


def bars_alone(lot):
    return [
        ("alone", one, other)
        for one, other in lot
        if other > one + 1 and not both_see_one_between(lot, one, other)
    ]


def both_see_one_between(lot, one, other):
    return any([
        (one, between) in lot and (between, other) in lot
        for between in range(one + 1, other)
    ])
