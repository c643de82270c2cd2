"""[4], and [3] so far as it speaks of heights."""

import random
import unittest

import slow
from roofsights.errors import NoHeights
from roofsights.sights import are_heights, sights

MOST = 10 ** 9

NO_HEIGHTS = slow.ODD_THINGS + (
    (), tuple(range(13)), tuple(range(20)), (1, 1), (3, 1, 2, 3), (-1,), (MOST + 1,), (1, -1), (1, MOST + 1),
    (True,), (False,), (True, 0), (5, False), (2, 3, True), [1, 2, 3], [5], "123", "5", None, 5, 0,
    ((1, 2), (3, 4)), ((1,),), (1, (2,)), (1, None), (1, "2"), (1, [2]), (1, 10 ** 39), (1, -(10 ** 39)),
)


def drawn_heights(rounds, most):
    draw = random.Random(4)
    for many in range(1, 13):
        for _ in range(rounds):
            yield tuple(draw.sample(range(most + 1), many))


class AreHeightsTest(unittest.TestCase):
    def test_heights(self):
        for thing in ((0,), (MOST,), (0, MOST), (5, 1, 3), tuple(range(12)), tuple(range(11, -1, -1)), (1, 0)):
            self.assertIs(are_heights(thing), True, thing)
        for heights in drawn_heights(20, MOST):
            self.assertIs(are_heights(heights), True, heights)

    def test_no_heights(self):
        for thing in NO_HEIGHTS:
            self.assertIs(are_heights(thing), False, thing)


class SightsTest(unittest.TestCase):
    def test_examples(self):
        self.assertEqual(sights((7,)), ())
        self.assertEqual(sights((0, MOST)), ((0, 1),))
        self.assertEqual(sights((3, 1, 2)), ((0, 1), (0, 2), (1, 2)))
        self.assertEqual(sights((1, 3, 2)), ((0, 1), (1, 2)))
        self.assertEqual(sights((4, 1, 2, 3)), ((0, 1), (0, 2), (0, 3), (1, 2), (2, 3)))
        self.assertEqual(sights((5, 1, 4, 2, 6)), ((0, 1), (0, 2), (0, 4), (1, 2), (2, 3), (2, 4), (3, 4)))

    def test_each_pair_by_all_houses_between(self):
        for heights in drawn_heights(60, 30):
            self.assertEqual(sights(heights), slow.sights_of(heights), heights)
        for heights in drawn_heights(20, MOST):
            self.assertEqual(sights(heights), slow.sights_of(heights), heights)

    def test_all_orders_of_few_houses(self):
        for many in range(1, 7):
            for lot, orders in slow.orders_by_lot(many).items():
                for order in orders:
                    self.assertEqual(sights(order), lot, order)

    def test_kinds_of_values(self):
        for heights in drawn_heights(5, 40):
            told = sights(heights)
            self.assertIs(type(told), tuple)
            self.assertEqual(list(told), sorted(set(told)))
            for pair in told:
                self.assertIs(type(pair), tuple)
                self.assertEqual([type(place) for place in pair], [int, int])
                self.assertLess(pair[0], pair[1])

    def test_neighbours_always_see_one_another(self):
        for heights in drawn_heights(20, 100):
            for one in range(len(heights) - 1):
                self.assertIn((one, one + 1), sights(heights))

    def test_as_much_greater_and_so_many_times(self):
        for heights in drawn_heights(10, 1000):
            told = sights(heights)
            for more in (1, 17, 10 ** 6, MOST - max(heights)):
                self.assertEqual(sights(tuple(height + more for height in heights)), told)
            for times in (2, 3, 1000, 10 ** 6):
                self.assertEqual(sights(tuple(height * times for height in heights)), told)

    def test_turned_about(self):
        for heights in drawn_heights(20, 1000):
            self.assertEqual(sights(heights[::-1]), slow.turned_lot(len(heights), sights(heights)))

    def test_refusals(self):
        for thing in NO_HEIGHTS:
            with self.assertRaises(NoHeights, msg=repr(thing)):
                sights(thing)


if __name__ == "__main__":
    unittest.main()
