"""[5], and [3] so far as it speaks of lots."""

import itertools
import random
import unittest

import slow
from roofsights.errors import NoLot, NoNumber
from roofsights.sights import bars, can_be, sights, what_bars

# Several bars of each sort, over five houses.
MANY_BARS = ((0, 2), (0, 3), (1, 3), (1, 4), (2, 4), (3, 4))


def drawn_lots(rounds):
    draw = random.Random(5)
    for many in range(1, 13):
        pairs = slow.pairs_of(many)
        for _ in range(rounds):
            yield many, tuple(sorted(draw.sample(pairs, draw.randint(0, len(pairs)))))


def nearly_lots(rounds):
    """Lots that can be, with one pair more or less."""
    draw = random.Random(6)
    for many in range(2, 13):
        for _ in range(rounds):
            lot = sights(tuple(draw.sample(range(100), many)))
            pair = draw.choice(slow.pairs_of(many))
            yield many, tuple(sorted(set(lot) ^ {pair}))


def bar_shaped(many):
    """Whatever looks like a bar, with places somewhat out of range, too."""
    places = range(-1, many + 1)
    for word in ("apart", "alone", "cross", "Apart", ""):
        for size in (0, 1, 2, 4):
            for told in itertools.product(places, repeat=size):
                yield (word,) + told


class CanBeTest(unittest.TestCase):
    def test_every_lot_of_up_to_four_houses_beside_all_orders(self):
        for many in range(1, 5):
            found = slow.orders_by_lot(many)
            for lot in slow.all_lots(many):
                self.assertIs(can_be(many, lot), lot in found, (many, lot))

    def test_every_lot_of_five_houses_beside_all_orders(self):
        found = slow.orders_by_lot(5)
        for lot in slow.all_lots(5):
            self.assertIs(can_be(5, lot), lot in found, lot)

    def test_sights_of_heights_can_be(self):
        draw = random.Random(7)
        for many in range(1, 13):
            for _ in range(30):
                lot = sights(tuple(draw.sample(range(1000), many)))
                self.assertIs(can_be(many, lot), True)
                self.assertIsNone(what_bars(many, lot))
                self.assertIs(can_be(many, slow.turned_lot(many, lot)), True)

    def test_can_be_just_where_nothing_bars(self):
        for many, lot in itertools.chain(drawn_lots(10), nearly_lots(20)):
            self.assertIs(can_be(many, lot), slow.bars_of(many, lot) == [], (many, lot))

    def test_a_lone_house(self):
        self.assertIs(can_be(1, ()), True)
        self.assertIsNone(what_bars(1, ()))
        self.assertIs(can_be(2, ()), False)
        self.assertEqual(what_bars(2, ()), ("apart", 0, 1))


class WhatBarsTest(unittest.TestCase):
    def test_first_sort_first_and_the_first_of_it(self):
        self.assertEqual(what_bars(5, MANY_BARS), ("apart", 0, 1))
        told = tuple(sorted(MANY_BARS + ((0, 1),)))
        self.assertEqual(what_bars(5, told), ("apart", 1, 2))
        told = tuple(sorted(told + ((1, 2), (2, 3))))
        self.assertEqual(what_bars(5, told), ("cross", 0, 2, 1, 3))
        told = tuple(sorted(set(told) - {(0, 2)}))
        self.assertEqual(what_bars(5, told), ("cross", 0, 3, 1, 4))
        told = tuple(sorted(set(told) - {(0, 3)}))
        self.assertEqual(what_bars(5, told), ("cross", 1, 3, 2, 4))

    def test_alone(self):
        line = ((0, 1), (1, 2), (2, 3), (3, 4), (4, 5), (5, 6))
        self.assertEqual(what_bars(7, tuple(sorted(line + ((0, 3),)))), ("alone", 0, 3))
        self.assertEqual(what_bars(7, tuple(sorted(line + ((0, 3), (3, 6))))), ("alone", 0, 3))
        self.assertEqual(what_bars(7, tuple(sorted(line + ((0, 3), (0, 6))))), ("alone", 0, 3))
        self.assertEqual(what_bars(7, tuple(sorted(line + ((0, 2), (0, 3), (3, 6))))), ("alone", 3, 6))
        self.assertEqual(what_bars(7, tuple(sorted(line + ((0, 2), (0, 6))))), ("alone", 0, 6))
        self.assertIsNone(what_bars(7, tuple(sorted(line + ((0, 2), (0, 3), (3, 5), (3, 6))))))

    def test_beside_all_bars(self):
        for many in range(1, 6):
            for lot in slow.all_lots(many):
                self.assertEqual(what_bars(many, lot), (slow.bars_of(many, lot) + [None])[0], (many, lot))
        for many, lot in itertools.chain(drawn_lots(20), nearly_lots(40)):
            self.assertEqual(what_bars(many, lot), (slow.bars_of(many, lot) + [None])[0], (many, lot))

    def test_the_fullest_lot(self):
        pairs = tuple(slow.pairs_of(12))
        self.assertEqual(what_bars(12, pairs), ("cross", 0, 2, 1, 3))
        self.assertEqual(what_bars(12, ()), ("apart", 0, 1))


class BarsTest(unittest.TestCase):
    def test_each_bar_there_is_and_nothing_else_of_its_shape(self):
        for many in range(1, 5):
            for lot in slow.all_lots(many):
                told = set(slow.bars_of(many, lot))
                for thing in bar_shaped(many):
                    self.assertIs(bars(many, lot, thing), thing in told, (many, lot, thing))

    def test_not_the_first_alone(self):
        told = slow.bars_of(5, MANY_BARS)
        self.assertEqual({bar[0] for bar in told}, {"apart", "cross", "alone"})
        for sort in ("apart", "cross", "alone"):
            self.assertGreater(len([bar for bar in told if bar[0] == sort]), 1)
        for bar in told:
            self.assertIs(bars(5, MANY_BARS, bar), True, bar)
        for many, lot in itertools.chain(drawn_lots(5), nearly_lots(5)):
            for bar in slow.bars_of(many, lot):
                self.assertIs(bars(many, lot, bar), True, (many, lot, bar))

    def test_spoilt_ones(self):
        told = slow.bars_of(5, MANY_BARS)
        for bar in told:
            spoilt = [
                list(bar), bar + (0,), bar[:-1], bar[1:], (bar,), [bar], (None,) + bar[1:], (bar[0].upper(),) + bar[1:],
                (bar[0] + " ",) + bar[1:], bar[:-1] + (str(bar[-1]),), bar[:-1] + (None,), bar[:-1] + ((bar[-1],),),
                bar[:-1] + ([bar[-1]],), ([bar[0]],) + bar[1:], (bar[0], bar[1:]), str(bar), (bar[0],), bar[0],
            ]
            for thing in spoilt:
                self.assertIs(bars(5, MANY_BARS, thing), False, thing)
            for at in range(1, len(bar)):
                for more in (-10, 10, 10 ** 38):
                    thing = bar[:at] + (bar[at] + more,) + bar[at + 1:]
                    self.assertIs(bars(5, MANY_BARS, thing), False, thing)

    def test_a_truth_stands_for_no_place(self):
        lot = ((0, 2), (0, 3), (1, 3))
        told = slow.bars_of(4, lot)
        self.assertEqual({bar[0] for bar in told}, {"apart", "cross", "alone"})
        for bar in told:
            self.assertIs(bars(4, lot, bar), True)
            for at in range(1, len(bar)):
                if bar[at] in (0, 1):
                    thing = bar[:at] + (bar[at] == 1,) + bar[at + 1:]
                    self.assertEqual(thing, bar)
                    self.assertIs(bars(4, lot, thing), False, thing)

    def test_anything_else(self):
        for thing in slow.ODD_THINGS + ((), 0, 1, ((), ()), ("apart",), ("apart", ("apart", 0, 1))):
            self.assertIs(bars(5, MANY_BARS, thing), False, thing)
            self.assertIs(bars(1, (), thing), False, thing)

    def test_nothing_bars_a_lot_that_can_be(self):
        lot = sights((5, 1, 4, 2))
        for thing in bar_shaped(4):
            self.assertIs(bars(4, lot, thing), False)


class RefusalsTest(unittest.TestCase):
    def test_no_number_ahead_of_no_lot(self):
        for many in slow.NO_MANY + slow.ODD_THINGS:
            for lot in ((), ((0, 1),), "text", [(0, 1)], ((1, 0),), None):
                self.check(NoNumber, many, lot)

    def test_no_lot(self):
        for lot in slow.NO_LOTS_OF_FOUR:
            self.check(NoLot, 4, lot)

    def test_places_hang_on_many(self):
        self.check(NoLot, 1, ((0, 1),))
        self.check(NoLot, 2, ((0, 1), (1, 2)))
        self.check(NoLot, 11, ((0, 11),))
        self.assertEqual(what_bars(12, ((0, 11),)), ("apart", 0, 1))

    def check(self, kind, many, lot):
        with self.assertRaises(kind, msg=repr((many, lot))):
            can_be(many, lot)
        with self.assertRaises(kind, msg=repr((many, lot))):
            what_bars(many, lot)
        for thing in (("apart", 0, 1), None, [[]]):
            with self.assertRaises(kind, msg=repr((many, lot))):
                bars(many, lot, thing)


if __name__ == "__main__":
    unittest.main()
