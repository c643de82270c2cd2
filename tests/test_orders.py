"""[6], [7], [8], and [3] so far as it speaks of orders of heights."""

import random
import time
import unittest
from math import comb

import slow
from roofsights.errors import NoHouse, NoLot, NoNumber
from roofsights.orders import first_order, from_ends, higher, highest, how_many
from roofsights.sights import sights

LINE = ((0, 1), (1, 2), (2, 3))
SPOILT = (
    (2, ()), (3, ((0, 1),)), (3, ((0, 2),)), (4, ((0, 1), (0, 2), (1, 2), (1, 3), (2, 3))),
    (4, ((0, 1), (0, 3), (1, 2), (2, 3))), (12, ()), (12, tuple(slow.pairs_of(12))),
)


def line_of(many):
    return tuple((one, one + 1) for one in range(many - 1))


def fan_of(many):
    """House 0 sees all others: 2 * many - 3 sights, as many as there can be."""
    return tuple(sorted(set(line_of(many)) | {(0, other) for other in range(1, many)}))


def drawn_long_rows(rounds):
    draw = random.Random(8)
    for many in range(7, 13):
        for _ in range(rounds):
            yield tuple(draw.sample(range(1, many + 1), many))


def every_answer(many, lot):
    pairs = [(one, other) for one in range(many) for other in range(many) if one != other]
    return (
        how_many(many, lot), first_order(many, lot), highest(many, lot), from_ends(many, lot),
        [higher(many, lot, one, other) for one, other in pairs],
    )


class BesideAllOrdersTest(unittest.TestCase):
    """Every lot of up to six houses that comes up, beside all orders gone through one by one."""

    def each(self):
        for many in range(1, 7):
            for lot, orders in slow.orders_by_lot(many).items():
                yield many, lot, orders

    def test_how_many(self):
        for many, lot, orders in self.each():
            self.assertEqual(how_many(many, lot), len(orders), (many, lot))

    def test_first_order(self):
        for many, lot, orders in self.each():
            told = first_order(many, lot)
            self.assertEqual(told, min(orders), (many, lot))
            self.assertIs(type(told), tuple)
            self.assertEqual({type(number) for number in told}, {int})

    def test_highest(self):
        for many, lot, orders in self.each():
            told = highest(many, lot)
            self.assertEqual(told, slow.highest_of(orders), (many, lot))
            self.assertIs(type(told), list)
            self.assertEqual({type(pair) for pair in told}, {tuple})

    def test_higher(self):
        for many, lot, orders in self.each():
            for one in range(many):
                for other in range(many):
                    if one != other:
                        told = higher(many, lot, one, other)
                        self.assertEqual(told, slow.higher_of(orders, one, other), (many, lot, one, other))

    def test_from_ends(self):
        for many, lot, orders in self.each():
            told = from_ends(many, lot)
            self.assertEqual(told, slow.from_ends_of(orders), (many, lot))
            self.assertIs(type(told), list)
            for triple in told:
                self.assertEqual([type(part) for part in triple], [tuple, tuple, int])

    def test_seven_houses(self):
        for lot, orders in slow.orders_by_lot(7).items():
            self.assertEqual(highest(7, lot), slow.highest_of(orders), lot)
            self.assertEqual(first_order(7, lot), orders[0], lot)


class LotsThatCannotBeTest(unittest.TestCase):
    def each(self):
        for many in range(2, 5):
            found = slow.orders_by_lot(many)
            for lot in slow.all_lots(many):
                if lot not in found:
                    yield many, lot
        yield from SPOILT

    def test_no_order_has_it(self):
        for many, lot in self.each():
            self.assertEqual(how_many(many, lot), 0, (many, lot))
            self.assertIsNone(first_order(many, lot))
            self.assertEqual(highest(many, lot), [])

    def test_refused_where_lots_that_can_be_are_told(self):
        for many, lot in self.each():
            with self.assertRaises(NoLot, msg=repr((many, lot))):
                from_ends(many, lot)
            for one, other in ((0, 1), (0, 0), (True, 1), ("", None), (0, many)):
                with self.assertRaises(NoLot, msg=repr((many, lot))):
                    higher(many, lot, one, other)


class LongRowsTest(unittest.TestCase):
    def test_all_neighbours_and_no_more(self):
        for many in range(1, 13):
            lot = line_of(many)
            self.assertEqual(how_many(many, lot), 2 ** (many - 1))
            self.assertEqual(first_order(many, lot), tuple(range(1, many + 1)))
            self.assertEqual(highest(many, lot), [(top, comb(many - 1, top)) for top in range(many)])
            self.assertEqual(from_ends(many, lot), [
                (tuple(range(top + 1)), tuple(range(top, many)), comb(many - 1, top)) for top in range(many)
            ])
            for one in range(many):
                for other in range(many):
                    if one != other:
                        self.assertEqual(higher(many, lot, one, other), "either")

    def test_the_most_sights(self):
        lot = fan_of(12)
        self.assertEqual(len(lot), 21)
        self.assertEqual(how_many(12, lot), 2)
        self.assertEqual(first_order(12, lot), (11, 1, 2, 3, 4, 5, 6, 7, 8, 9, 10, 12))
        self.assertEqual(highest(12, lot), [(0, 1), (11, 1)])
        self.assertEqual(from_ends(12, lot), [((0,), (0, 11), 1), ((0, 11), (11,), 1)])
        self.assertEqual(higher(12, lot, 0, 11), "either")
        self.assertEqual(higher(12, lot, 0, 10), "higher")
        self.assertEqual(higher(12, lot, 3, 2), "higher")
        self.assertEqual(higher(12, lot, 2, 3), "lower")
        self.assertEqual(higher(12, lot, 1, 11), "lower")

    def test_counts_beside_rows_grown_from_the_lowest_up(self):
        for row in drawn_long_rows(8):
            many, lot = len(row), sights(row)
            told = slow.highest_by_growing(many, lot)
            self.assertEqual(highest(many, lot), told, row)
            self.assertEqual(how_many(many, lot), sum(count for top, count in told), row)

    def test_a_drawn_order_is_one_of_those_told(self):
        for row in drawn_long_rows(15):
            many, lot = len(row), sights(row)
            told = first_order(many, lot)
            self.assertEqual(sights(told), lot)
            self.assertEqual(sorted(told), list(range(1, many + 1)))
            self.assertLessEqual(told, row)
            tops = [top for top, count in highest(many, lot)]
            self.assertIn(row.index(many), tops)
            self.assertEqual(from_ends(many, lot)[tops.index(row.index(many))][:2], slow.ends_of(row))
            for one, other in slow.pairs_of(many):
                sign = "higher" if row[one] > row[other] else "lower"
                self.assertIn(higher(many, lot, one, other), (sign, "either"))

    def test_turned_about(self):
        for row in drawn_long_rows(6):
            many, lot = len(row), sights(row)
            turned = slow.turned_lot(many, lot)
            self.assertEqual(how_many(many, turned), how_many(many, lot))
            self.assertEqual(highest(many, turned), [(many - 1 - top, k) for top, k in highest(many, lot)][::-1])
            self.assertEqual(from_ends(many, turned), [
                (tuple(many - 1 - k for k in right[::-1]), tuple(many - 1 - k for k in left[::-1]), count)
                for left, right, count in from_ends(many, lot)
            ][::-1])
            for one, other in slow.pairs_of(many):
                told = higher(many, turned, many - 1 - one, many - 1 - other)
                self.assertEqual(told, higher(many, lot, one, other))

    def test_one_way_and_the_other(self):
        opposite = {"higher": "lower", "lower": "higher", "either": "either"}
        for row in drawn_long_rows(6):
            many, lot = len(row), sights(row)
            for one, other in slow.pairs_of(many):
                self.assertEqual(higher(many, lot, other, one), opposite[higher(many, lot, one, other)])

    def test_in_good_time(self):
        started = time.monotonic()
        for lot in (line_of(12), fan_of(12), slow.turned_lot(12, fan_of(12))):
            every_answer(12, lot)
        for many, lot in ((12, ()), (12, tuple(slow.pairs_of(12)))):
            how_many(many, lot), first_order(many, lot), highest(many, lot)
        for row in drawn_long_rows(3):
            every_answer(len(row), sights(row))
        self.assertLess(time.monotonic() - started, 60)


class AnswersAreTheAskersOwnTest(unittest.TestCase):
    """[2]"""

    def test_a_told_list_changed_by_the_asker_changes_no_later_answer(self):
        for many, lot in ((4, LINE), (1, ()), (12, fan_of(12)), (3, ())):
            told = highest(many, lot)
            again = list(told)
            told.append("spoilt")
            told.reverse()
            self.assertEqual(highest(many, lot), again)
            self.assertIsNot(highest(many, lot), highest(many, lot))
        for many, lot in ((4, LINE), (1, ()), (12, fan_of(12))):
            told = from_ends(many, lot)
            again = list(told)
            told.clear()
            self.assertEqual(from_ends(many, lot), again)
            self.assertIsNot(from_ends(many, lot), from_ends(many, lot))

    def test_the_same_question_has_the_same_answer(self):
        for row in drawn_long_rows(2):
            lot = sights(row)
            self.assertEqual(every_answer(len(row), lot), every_answer(len(row), lot))


class RefusalsTest(unittest.TestCase):
    def check(self, kind, many, lot):
        for ask in (how_many, first_order, highest, from_ends):
            with self.assertRaises(kind, msg=repr((many, lot))):
                ask(many, lot)
        for one, other in ((0, 1), (0, 0), (0, 99), (True, False), (None, "text")):
            with self.assertRaises(kind, msg=repr((many, lot))):
                higher(many, lot, one, other)

    def test_no_number_ahead_of_all_else(self):
        for many in slow.NO_MANY + slow.ODD_THINGS:
            for lot in ((), ((0, 1),), "text", [(0, 1)], ((1, 0),), None):
                self.check(NoNumber, many, lot)

    def test_no_lot(self):
        for lot in slow.NO_LOTS_OF_FOUR:
            self.check(NoLot, 4, lot)

    def test_no_house(self):
        wrong = slow.ODD_THINGS + (4, 5, 12, (0,), ((0, 1),))
        for thing in wrong:
            for house in (0, 3):
                self.check_houses(4, LINE, thing, house)
                self.check_houses(4, LINE, house, thing)
            self.check_houses(4, LINE, thing, thing)
        for house in range(-1, 5):
            self.check_houses(4, LINE, house, house)
        self.check_houses(4, LINE, True, 2)
        self.check_houses(4, LINE, 2, False)
        self.check_houses(1, (), 0, 0)
        self.check_houses(1, (), 0, 1)
        self.check_houses(12, line_of(12), 11, 12)

    def check_houses(self, many, lot, one, other):
        with self.assertRaises(NoHouse, msg=repr((many, lot, one, other))):
            higher(many, lot, one, other)

    def test_a_lone_house(self):
        self.assertEqual(how_many(1, ()), 1)
        self.assertEqual(first_order(1, ()), (1,))
        self.assertEqual(highest(1, ()), [(0, 1)])
        self.assertEqual(from_ends(1, ()), [((0,), (0,), 1)])


if __name__ == "__main__":
    unittest.main()
