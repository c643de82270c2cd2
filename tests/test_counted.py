"""[10] and [11], and [3] so far as it speaks of them."""

import itertools
import random
import unittest
from math import comb

import slow
from roofsights.counted import by_counts, lots_of
from roofsights.errors import NoCounts, NoNumber
from roofsights.known import lots_with
from roofsights.sights import sights

NO_NUMBERS = (0, 61, -1, 62, 100, -60, 10 ** 39, True, False, None, "", "5", "text", (5,), [5], (), [], ((5,),))

NO_COUNTS = slow.ODD_THINGS + (
    (), (1,) * 9, (0,) * 9, (1, 2, 2, 2, 2, 2, 2, 2, 1), (0,) * 20, (8,), (-1,), (1, 8), (-1, 1), (1, 2, 8, 2, 1),
    (7, 7, 7, 7, 7, 7, 7, 8), (True,), (False,), (True, 1), (1, True), (1, 2, True), (1, False, 1), [0], [1, 1],
    [1, 2, 1], "", "0", "11", "text", None, 0, 1, 5, (None,), (1, None), (1, "1"), (1, [1]), ((1, 1),), (1, (1,)),
    (1, 10 ** 39), (1, -(10 ** 39)),
)


def by_all_lots(counts):
    many = len(counts)
    lots = [lot for lot in slow.lots_by_growing(many) if slow.counts_of(many, lot) == counts]
    return len(lots), min(lots, default=None)


def drawn_counts(rounds):
    draw = random.Random(17)
    for many in range(1, 9):
        for _ in range(rounds):
            yield slow.counts_of(many, slow.sights_of(draw.sample(range(100), many)))


class LotsOfTest(unittest.TestCase):
    def test_beside_all_lots_that_come_up(self):
        for many in range(1, 7):
            self.assertEqual(lots_of(many), len(slow.orders_by_lot(many)))

    def test_beside_grown_lots(self):
        for many in range(7, 13):
            self.assertEqual(lots_of(many), len(slow.lots_by_growing(many)))
            self.assertEqual(lots_of(many), lots_with(many, (), ()))

    def test_each_number_to_sixty(self):
        for number in range(1, 61):
            told = lots_of(number)
            self.assertEqual(told, comb(2 * number - 2, number - 1) // number)
            self.assertIs(type(told), int)
        self.assertEqual(lots_of(60), 405944995127576985730643443367112)

    def test_no_number(self):
        for number in NO_NUMBERS + slow.ODD_THINGS:
            with self.assertRaises(NoNumber, msg=repr(number)):
                lots_of(number)


class ByCountsTest(unittest.TestCase):
    def check(self, counts):
        told = by_counts(counts)
        self.assertEqual(told, by_all_lots(counts), counts)
        self.assertIs(type(told), tuple)
        self.assertIs(type(told[0]), int)
        return told

    def test_the_grown_lots_are_all_that_come_up(self):
        for many in range(1, 8):
            self.assertEqual(slow.lots_by_growing(many), sorted(slow.orders_by_lot(many)))

    def test_all_counts_of_up_to_three_houses(self):
        for many in range(1, 4):
            for counts in itertools.product(range(8), repeat=many):
                self.check(counts)

    def test_counts_of_all_lots(self):
        for many in range(1, 9):
            lots = {}
            for lot in slow.lots_by_growing(many):
                lots.setdefault(slow.counts_of(many, lot), []).append(lot)
            for counts, same in lots.items():
                self.assertEqual(by_counts(counts), (len(same), same[0]), counts)

    def test_counts_of_drawn_rows(self):
        for counts in drawn_counts(25):
            many, first = self.check(counts)
            self.assertGreaterEqual(many, 1)
            self.assertEqual(slow.counts_of(len(counts), first), counts)

    def test_one_count_changed(self):
        draw = random.Random(18)
        for counts in drawn_counts(20):
            at = draw.randrange(len(counts))
            for count in draw.sample(range(8), 3):
                self.check(counts[:at] + (count,) + counts[at + 1:])

    def test_two_counts_changed(self):
        # The sum of all counts is even still, so that there may be a lot.
        draw = random.Random(19)
        found = []
        for counts in drawn_counts(30):
            changed = list(counts)
            changed[draw.randrange(len(counts))] += draw.choice((-1, 1))
            changed[draw.randrange(len(counts))] += draw.choice((-1, 1))
            if all(0 <= count <= 7 for count in changed):
                found.append(self.check(tuple(changed))[0])
        self.assertIn(0, found)
        self.assertGreater(max(found), 0)

    def test_examples(self):
        self.assertEqual(by_counts((0,)), (1, ()))
        self.assertEqual(by_counts((1, 1)), (1, ((0, 1),)))
        self.assertEqual(by_counts((1, 2, 1)), (1, ((0, 1), (1, 2))))
        self.assertEqual(by_counts((2, 2, 2)), (1, ((0, 1), (0, 2), (1, 2))))
        self.assertEqual(by_counts((7, 2, 3, 3, 3, 3, 3, 2)), (1, sights((9, 1, 2, 3, 4, 5, 6, 7))))

    def test_none(self):
        for counts in ((1,), (7,), (0, 0), (0, 1), (1, 1, 1), (0,) * 8, (7,) * 8, (7, 7), (2, 1, 1), (1,) * 8):
            self.assertEqual(by_counts(counts), (0, None), counts)

    def test_no_counts(self):
        for thing in NO_COUNTS:
            with self.assertRaises(NoCounts, msg=repr(thing)):
                by_counts(thing)


if __name__ == "__main__":
    unittest.main()
