"""[2]: nothing that is handed in is changed, or kept but as a copy."""

import copy
import unittest

import slow
from roofsights.counted import by_counts, lots_of
from roofsights.errors import RoofError
from roofsights.known import first_with, lots_with, orders_with, sure
from roofsights.orders import first_order, from_ends, higher, highest, how_many
from roofsights.sights import are_heights, bars, can_be, sights, what_bars
from roofsights.streets import Street

LOT = ((0, 1), (0, 2), (1, 2), (2, 3))
THINGS = slow.ODD_THINGS + slow.NO_LOTS_OF_FOUR + (
    [3, 1, 2], [[3], [1]], ([3, 1], 2), [0, 1, [2, [3]]], LOT, [list(pair) for pair in LOT], ("apart", [0], 1),
)
CALLS = (
    lambda thing: are_heights(thing),
    lambda thing: sights(thing),
    lambda thing: can_be(thing, LOT),
    lambda thing: can_be(4, thing),
    lambda thing: what_bars(thing, LOT),
    lambda thing: what_bars(4, thing),
    lambda thing: bars(thing, LOT, thing),
    lambda thing: bars(4, thing, thing),
    lambda thing: bars(4, LOT, thing),
    lambda thing: how_many(4, thing),
    lambda thing: first_order(4, thing),
    lambda thing: highest(4, thing),
    lambda thing: from_ends(4, thing),
    lambda thing: higher(thing, LOT, 0, 1),
    lambda thing: higher(4, thing, 0, 1),
    lambda thing: higher(4, LOT, thing, 1),
    lambda thing: higher(4, LOT, 0, thing),
    lambda thing: lots_with(thing, LOT, ()),
    lambda thing: lots_with(4, thing, thing),
    lambda thing: orders_with(4, thing, ()),
    lambda thing: orders_with(4, (), thing),
    lambda thing: first_with(4, thing, ()),
    lambda thing: first_with(4, (), thing),
    lambda thing: sure(4, thing, ()),
    lambda thing: sure(4, (), thing),
    lambda thing: lots_of(thing),
    lambda thing: by_counts(thing),
    lambda thing: Street().build(thing, thing),
    lambda thing: Street().build(0, thing),
    lambda thing: Street().pull(thing),
    lambda thing: Street() == thing,
)


def answer(call, thing):
    try:
        return call(thing)
    except RoofError as refusal:
        return refusal.__class__


def told_of(street):
    return street.heights(), street.sights(), street.from_ends(), len(street)


def every_answer():
    street = Street()
    for height in (3, 1, 2, 5):
        street.build(len(street), height)
    return (
        sights((3, 1, 2, 5)), what_bars(4, LOT), how_many(4, LOT), first_order(4, LOT), highest(4, LOT),
        from_ends(4, LOT), lots_with(4, LOT, ()), orders_with(4, LOT, ()), first_with(4, (), ((0, 3),)),
        sure(4, (), ((0, 3),)), lots_of(4), by_counts((2, 2, 3, 1)), told_of(street),
    )


class HandedInTest(unittest.TestCase):
    def test_nothing_is_changed(self):
        for at, call in enumerate(CALLS):
            for thing in THINGS:
                before = copy.deepcopy(thing)
                answer(call, thing)
                self.assertEqual(repr(thing), repr(before), (at, thing))

    def test_a_refusal_changes_no_later_answer(self):
        for at, call in enumerate(CALLS):
            for thing in THINGS:
                self.assertEqual(answer(call, thing), answer(call, copy.deepcopy(thing)), (at, thing))
        self.assertEqual(highest(4, LOT), slow.highest_of(slow.orders_by_lot(4)[LOT]))
        self.assertEqual(sure(4, LOT, ()), slow.known_by_orders(4, LOT, ())[3])

    def test_a_told_list_changed_by_the_asker_changes_no_later_answer(self):
        # The lists that are told are those of highest and from_ends; all else is told in tuples.
        before = every_answer()
        for ask in (highest, from_ends):
            told = ask(4, LOT)
            told.append(told.pop(0))
            told.append("spoilt")
        self.assertEqual(every_answer(), before)

    def test_a_list_changed_after_it_was_handed_in_changes_no_answer(self):
        handed = ["apart", 0, 1]
        self.assertIs(bars(2, (), tuple(handed)), True)
        self.assertIs(bars(2, (), handed), False)
        handed.append(2)
        self.assertIs(bars(2, (), ("apart", 0, 1)), True)
        self.assertEqual(what_bars(2, ()), ("apart", 0, 1))


if __name__ == "__main__":
    unittest.main()
