"""[3]: told from the other end all is turned about, for rows of up to twelve houses."""

import random
import unittest

import slow
from roofsights.counted import by_counts
from roofsights.known import first_with, lots_with, orders_with, sure
from roofsights.orders import first_order, from_ends, higher, highest, how_many
from roofsights.sights import can_be, sights
from roofsights.streets import Street


def drawn_rows(rounds):
    draw = random.Random(22)
    for many in range(1, 13):
        for _ in range(rounds):
            yield many, tuple(draw.sample(range(1000), many))


def drawn_questions(rounds):
    """Seen and unseen, of a row or at will."""
    draw = random.Random(23)
    for many, heights in drawn_rows(rounds):
        pairs, lot = slow.pairs_of(many), sights(heights)
        others = [pair for pair in pairs if pair not in lot]
        for some, more in ((lot, others), (pairs, pairs)):
            seen = draw.sample(some, draw.randint(0, min(4, len(some))))
            unseen = draw.sample(more, draw.randint(0, min(4, len(more))))
            yield many, tuple(sorted(seen)), tuple(sorted(unseen))


def street_of(heights):
    street = Street()
    for place, height in enumerate(heights):
        street.build(place, height)
    return street


class TurnedTest(unittest.TestCase):
    def test_sights(self):
        for many, heights in drawn_rows(20):
            turned = slow.turned_lot(many, sights(heights))
            self.assertEqual(sights(heights[::-1]), turned)
            self.assertIs(can_be(many, turned), True)
            self.assertEqual(street_of(heights[::-1]).sights(), turned)

    def test_how_many(self):
        for many, heights in drawn_rows(15):
            lot = sights(heights)
            self.assertEqual(how_many(many, slow.turned_lot(many, lot)), how_many(many, lot))

    def test_first_order(self):
        for many, heights in drawn_rows(15):
            lot = sights(heights)
            turned = slow.turned_lot(many, lot)
            self.assertEqual(sights(first_order(many, turned)[::-1]), lot)
            self.assertLessEqual(first_order(many, turned), first_order(many, lot)[::-1])

    def test_highest(self):
        for many, heights in drawn_rows(15):
            lot = sights(heights)
            told = [(many - 1 - house, count) for house, count in highest(many, lot)]
            self.assertEqual(highest(many, slow.turned_lot(many, lot)), told[::-1])

    def test_higher(self):
        for many, heights in drawn_rows(5):
            lot = sights(heights)
            turned = slow.turned_lot(many, lot)
            for one, other in slow.pairs_of(many):
                told = higher(many, lot, one, other)
                self.assertEqual(higher(many, turned, many - 1 - one, many - 1 - other), told)

    def test_from_ends(self):
        for many, heights in drawn_rows(15):
            lot = sights(heights)
            told = [
                (slow.turned_houses(many, right), slow.turned_houses(many, left), count)
                for left, right, count in from_ends(many, lot)
            ]
            self.assertEqual(from_ends(many, slow.turned_lot(many, lot)), told[::-1])

    def test_from_ends_of_a_street(self):
        for many, heights in drawn_rows(15):
            left, right = street_of(heights).from_ends()
            turned = (slow.turned_houses(many, right), slow.turned_houses(many, left))
            self.assertEqual(street_of(heights[::-1]).from_ends(), turned)

    def test_lots_and_orders_with(self):
        for many, seen, unseen in drawn_questions(15):
            turned = (many, slow.turned_lot(many, seen), slow.turned_lot(many, unseen))
            self.assertEqual(lots_with(*turned), lots_with(many, seen, unseen))
            self.assertEqual(orders_with(*turned), orders_with(many, seen, unseen))

    def test_sure_and_first_with(self):
        for many, seen, unseen in drawn_questions(15):
            turned = (many, slow.turned_lot(many, seen), slow.turned_lot(many, unseen))
            told = sure(many, seen, unseen)
            if told is not None:
                self.assertLessEqual(first_with(*turned), slow.turned_lot(many, first_with(many, seen, unseen)))
                told = tuple(slow.turned_lot(many, pairs) for pairs in told)
            self.assertEqual(sure(*turned), told)
            self.assertEqual(first_with(*turned) is None, told is None)

    def test_by_counts(self):
        draw = random.Random(24)
        for many, heights in drawn_rows(15):
            if many <= 8:
                counts = slow.counts_of(many, sights(heights))
                self.check_counts(counts)
                at = draw.randrange(many)
                self.check_counts(counts[:at] + (draw.randint(0, 7),) + counts[at + 1:])

    def check_counts(self, counts):
        many, first = by_counts(counts)
        turned_many, turned_first = by_counts(counts[::-1])
        self.assertEqual(turned_many, many)
        self.assertEqual(turned_first is None, first is None)
        if many == 1:
            self.assertEqual(turned_first, slow.turned_lot(len(counts), first))


if __name__ == "__main__":
    unittest.main()
