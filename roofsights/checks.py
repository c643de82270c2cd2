"""Which things are whole numbers, numbers of houses, heights, lots and places; the refusals of others."""

from roofsights.errors import NoHouse, NoLot, NoNumber

MOST_HOUSES = 12
MOST_HEIGHT = 10 ** 9


def is_whole(thing):
    # Python counts True and False among the integers, the document does not.
    return isinstance(thing, int) and not isinstance(thing, bool)


def is_whole_within(thing, least, most):
    return is_whole(thing) and least <= thing <= most


def is_many(thing):
    return is_whole_within(thing, 1, MOST_HOUSES)


def is_height(thing):
    return is_whole_within(thing, 0, MOST_HEIGHT)


def is_place(many, thing):
    return is_whole_within(thing, 0, many - 1)


def is_pair(many, thing):
    if not isinstance(thing, tuple) or len(thing) != 2:
        return False
    one, other = thing
    return is_place(many, one) and is_place(many, other) and one < other


def is_lot(many, thing):
    if not isinstance(thing, tuple):
        return False
    # Only pairs of places are sure to be comparable, so the order is looked at last.
    if not all([is_pair(many, part) for part in thing]):
        return False
    return all([before < behind for before, behind in zip(thing, thing[1:])])


def check_many(many):
    if not is_many(many):
        raise NoNumber("many must be a whole number from 1 to 12")


def check_lot(many, lot, name):
    if not is_lot(many, lot):
        raise NoLot(f"{name} must be a rising tuple of pairs of places, the first one less")


def check_many_and_lot(many, lot):
    # The places in a lot are limited by many, so many is looked at first.
    check_many(many)
    check_lot(many, lot, "lot")


def check_many_seen_and_unseen(many, seen, unseen):
    check_many(many)
    check_lot(many, seen, "seen")
    check_lot(many, unseen, "unseen")


def check_two_houses(many, one, other):
    if not is_place(many, one) or not is_place(many, other):
        raise NoHouse("a house must be a place from 0 to many - 1")
    if one == other:
        raise NoHouse("the two houses must be unlike")
