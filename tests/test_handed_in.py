"""[2]: nothing that is handed in is changed, or kept but as a copy."""

import copy
import unittest

import slow
from roofsights.errors import RoofError
from roofsights.orders import first_order, from_ends, higher, highest, how_many
from roofsights.sights import are_heights, bars, can_be, sights, what_bars

LOT = ((0, 1), (0, 2), (1, 2), (2, 3))
THINGS = slow.ODD_THINGS + slow.NO_LOTS_OF_FOUR + (
    [3, 1, 2], [[3], [1]], ([3, 1], 2), [0, 1, [2, [3]]], LOT, [list(pair) for pair in LOT], ("apart", [0], 1),
)
CALLS = (
    lambda thing: are_heights(thing),
    lambda thing: sights(thing),
    lambda thing: can_be(thing, LOT),
    lambda thing: can_be(4, thing),
    lambda thing: what_bars(thing, LOT),
    lambda thing: what_bars(4, thing),
    lambda thing: bars(thing, LOT, thing),
    lambda thing: bars(4, thing, thing),
    lambda thing: bars(4, LOT, thing),
    lambda thing: how_many(4, thing),
    lambda thing: first_order(4, thing),
    lambda thing: highest(4, thing),
    lambda thing: from_ends(4, thing),
    lambda thing: higher(thing, LOT, 0, 1),
    lambda thing: higher(4, thing, 0, 1),
    lambda thing: higher(4, LOT, thing, 1),
    lambda thing: higher(4, LOT, 0, thing),
)


def answer(call, thing):
    try:
        return call(thing)
    except RoofError as refusal:
        return refusal.__class__


class HandedInTest(unittest.TestCase):
    def test_nothing_is_changed(self):
        for at, call in enumerate(CALLS):
            for thing in THINGS:
                before = copy.deepcopy(thing)
                answer(call, thing)
                self.assertEqual(repr(thing), repr(before), (at, thing))

    def test_a_refusal_changes_no_later_answer(self):
        for at, call in enumerate(CALLS):
            for thing in THINGS:
                self.assertEqual(answer(call, thing), answer(call, copy.deepcopy(thing)), (at, thing))
        self.assertEqual(highest(4, LOT), slow.highest_of(slow.orders_by_lot(4)[LOT]))

    def test_a_list_changed_after_it_was_handed_in_changes_no_answer(self):
        handed = ["apart", 0, 1]
        self.assertIs(bars(2, (), tuple(handed)), True)
        self.assertIs(bars(2, (), handed), False)
        handed.append(2)
        self.assertIs(bars(2, (), ("apart", 0, 1)), True)
        self.assertEqual(what_bars(2, ()), ("apart", 0, 1))


if __name__ == "__main__":
    unittest.main()
