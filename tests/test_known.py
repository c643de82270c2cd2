"""[9], and [3] so far as it speaks of sights that are known and known not to be."""

import random
import time
import unittest
from math import factorial

import slow
from roofsights.errors import NoLot, NoNumber
from roofsights.known import first_with, lots_with, orders_with, sure
from roofsights.sights import can_be, sights

ASKS = (lots_with, orders_with, first_with, sure)


def told(many, seen, unseen):
    return tuple(ask(many, seen, unseen) for ask in ASKS)


def some_of(draw, pairs):
    return tuple(sorted(draw.sample(pairs, draw.randint(0, len(pairs)))))


def few_of(draw, pairs):
    return tuple(sorted(draw.sample(pairs, draw.randint(0, min(3, len(pairs))))))


def drawn_row(draw, many):
    return slow.sights_of(draw.sample(range(100), many))


def of_a_row(draw, many):
    """Some sights of a row are seen, some pairs that are none are unseen: at least this row fits."""
    lot = drawn_row(draw, many)
    others = [pair for pair in slow.pairs_of(many) if pair not in lot]
    take = draw.choice((some_of, few_of))
    return take(draw, lot), take(draw, others)


def at_will(draw, many):
    take = draw.choice((some_of, few_of, few_of))
    return take(draw, slow.pairs_of(many)), take(draw, slow.pairs_of(many))


def one_in_both(draw, many):
    seen, unseen = of_a_row(draw, many)
    pair = draw.choice(slow.pairs_of(many))
    return tuple(sorted({*seen, pair})), tuple(sorted({*unseen, pair}))


def neighbours_unseen(draw, many):
    seen, unseen = of_a_row(draw, many)
    one = draw.randrange(many - 1)
    return seen, tuple(sorted({*unseen, (one, one + 1)}))


class BesideAllOrdersTest(unittest.TestCase):
    """Rows of up to six houses, beside all orders of heights gone through one by one."""

    def check(self, many, seen, unseen):
        found = told(many, seen, unseen)
        self.assertEqual(found, slow.known_by_orders(many, seen, unseen), (many, seen, unseen))
        return found

    def check_drawn(self, draw_question, rounds, least=1):
        draw = random.Random(9)
        for many in range(least, 7):
            for _ in range(rounds):
                yield self.check(many, *draw_question(draw, many))

    def test_nothing_known(self):
        for many in range(1, 7):
            lots, orders, first, pairs = self.check(many, (), ())
            self.assertEqual(lots, len(slow.orders_by_lot(many)))
            self.assertEqual(orders, factorial(many))
            self.assertEqual(first, min(slow.orders_by_lot(many)))

    def test_all_that_can_be_known_of_up_to_four_houses(self):
        for many in range(1, 5):
            lots = slow.all_lots(many)
            for seen in lots:
                for unseen in lots:
                    self.check(many, seen, unseen)

    def test_pairs_of_a_row(self):
        for lots, orders, first, pairs in self.check_drawn(of_a_row, 80):
            self.assertGreaterEqual(lots, 1)
            self.assertGreaterEqual(orders, 1)
            self.assertIsNotNone(first)
            self.assertIsNotNone(pairs)

    def test_pairs_drawn_at_will(self):
        found = list(self.check_drawn(at_will, 150))
        self.assertGreater(len([1 for lots, orders, first, pairs in found if lots == 0]), 100)
        self.assertGreater(len([1 for lots, orders, first, pairs in found if lots > 1]), 100)

    def test_one_pair_in_both(self):
        for found in self.check_drawn(one_in_both, 30, least=2):
            self.assertEqual(found, (0, 0, None, None))

    def test_neighbours_unseen(self):
        for found in self.check_drawn(neighbours_unseen, 30, least=2):
            self.assertEqual(found, (0, 0, None, None))

    def test_all_sights_of_a_row_and_no_others(self):
        for many in range(1, 7):
            for lot, orders in slow.orders_by_lot(many).items():
                others = tuple(pair for pair in slow.pairs_of(many) if pair not in lot)
                self.assertEqual(self.check(many, lot, others), (1, len(orders), lot, (lot, others)))
                self.check(many, lot, ())
                self.check(many, (), others)
                self.check(many, (), lot)


class LongRowsTest(unittest.TestCase):
    """Rows of up to twelve houses, beside lots and orders that are grown house by house."""

    def check(self, many, seen, unseen):
        self.assertEqual(told(many, seen, unseen), slow.known_by_growing(many, seen, unseen), (many, seen, unseen))

    def test_the_grown_answers_are_those_of_all_orders(self):
        for many in range(1, 8):
            self.assertEqual(slow.lots_by_growing(many), sorted(slow.orders_by_lot(many)))
        draw = random.Random(10)
        for many in range(2, 7):
            for draw_question in (of_a_row, at_will):
                question = draw_question(draw, many)
                self.assertEqual(slow.known_by_growing(many, *question), slow.known_by_orders(many, *question))

    def test_nothing_known(self):
        for many in range(7, 13):
            self.check(many, (), ())
        line = tuple((one, one + 1) for one in range(11))
        self.assertEqual(lots_with(12, (), ()), 58786)
        self.assertEqual(orders_with(12, (), ()), factorial(12))
        self.assertEqual(first_with(12, (), ()), tuple(sorted({*line, *((0, other) for other in range(1, 12))})))
        self.assertEqual(sure(12, (), ()), (line, ()))

    def test_drawn_ones(self):
        draw = random.Random(11)
        for many, rounds in ((7, 20), (8, 15), (9, 8), (10, 4), (11, 3), (12, 3)):
            for _ in range(rounds):
                self.check(many, *of_a_row(draw, many))
                self.check(many, *at_will(draw, many))

    def test_all_sights_of_a_row_of_twelve(self):
        draw = random.Random(12)
        for _ in range(3):
            lot = drawn_row(draw, 12)
            others = tuple(pair for pair in slow.pairs_of(12) if pair not in lot)
            self.check(12, lot, ())
            self.check(12, lot, others)
            self.check(12, (), others)
            self.assertEqual(sure(12, lot, others), (lot, others))
            self.assertEqual(first_with(12, lot, others), lot)

    def test_all_pairs(self):
        pairs = tuple(slow.pairs_of(12))
        for seen, unseen in ((pairs, ()), ((), pairs), (pairs, pairs)):
            self.assertEqual(told(12, seen, unseen), (0, 0, None, None))

    def test_one_pair_in_both_and_neighbours_unseen(self):
        draw = random.Random(13)
        for many in range(7, 13):
            for draw_question in (one_in_both, neighbours_unseen):
                for _ in range(5):
                    self.assertEqual(told(many, *draw_question(draw, many)), (0, 0, None, None))

    def test_what_is_told_hangs_together(self):
        draw = random.Random(14)
        for many in range(7, 13):
            for _ in range(10):
                seen, unseen = of_a_row(draw, many)
                first, (in_all, in_none) = first_with(many, seen, unseen), sure(many, seen, unseen)
                self.assertIs(can_be(many, first), True)
                self.assertLessEqual(set(seen), set(in_all))
                self.assertLessEqual(set(in_all), set(first))
                self.assertLessEqual(set(unseen), set(in_none))
                self.assertTrue(set(in_none).isdisjoint(first))
                for pair in draw.sample(slow.pairs_of(many), 6):
                    self.check_one_more(many, seen, unseen, pair, pair in in_all, pair in in_none)

    def check_one_more(self, many, seen, unseen, pair, in_all, in_none):
        """Each lot and each order has the pair or has it not, and what is sure says which."""
        more_seen, more_unseen = tuple(sorted({*seen, pair})), tuple(sorted({*unseen, pair}))
        for ask in (lots_with, orders_with):
            with_it, without = ask(many, more_seen, unseen), ask(many, seen, more_unseen)
            self.assertEqual(with_it + without, ask(many, seen, unseen))
            self.assertEqual((without == 0, with_it == 0), (in_all, in_none))

    def test_in_good_time(self):
        started = time.monotonic()
        draw = random.Random(15)
        for _ in range(50):
            told(12, *at_will(draw, 12))
            told(12, *of_a_row(draw, 12))
        self.assertLess(time.monotonic() - started, 60)


class KindsOfValuesTest(unittest.TestCase):
    def test_kinds(self):
        draw = random.Random(16)
        for many in range(1, 13):
            lots, orders, first, pairs = told(many, *of_a_row(draw, many))
            self.assertEqual([type(part) for part in (lots, orders, first, pairs)], [int, int, tuple, tuple])
            self.assertEqual([type(part) for part in pairs], [tuple, tuple])
            for part in (first,) + pairs:
                self.assertEqual(list(part), sorted(set(part)))
                for pair in part:
                    self.assertIs(type(pair), tuple)
                    self.assertEqual([type(place) for place in pair], [int, int])

    def test_a_number_also_where_there_is_none(self):
        for ask in (lots_with, orders_with):
            self.assertIs(type(ask(3, (), ((0, 1),))), int)

    def test_a_lone_house(self):
        self.assertEqual(told(1, (), ()), (1, 1, (), ((), ())))

    def test_an_example(self):
        # The two ends see one another over both: house 1 or house 2 is the higher one between.
        line = ((0, 1), (1, 2), (2, 3))
        self.assertEqual(lots_with(4, ((0, 3),), ()), 2)
        self.assertEqual(orders_with(4, ((0, 3),), ()), 4)
        self.assertEqual(first_with(4, ((0, 3),), ()), sights((3, 1, 2, 4)))
        self.assertEqual(first_with(4, ((0, 3),), ((0, 2),)), sights((3, 2, 1, 4)))
        self.assertEqual(sure(4, ((0, 3),), ()), (tuple(sorted({*line, (0, 3)})), ()))
        self.assertEqual(sure(4, (), ((0, 2), (1, 3))), (line, ((0, 2), (0, 3), (1, 3))))


class RefusalsTest(unittest.TestCase):
    def check(self, kind, many, seen, unseen, words=""):
        for ask in ASKS:
            with self.assertRaisesRegex(kind, words, msg=repr((many, seen, unseen))):
                ask(many, seen, unseen)

    def test_no_number_ahead_of_no_lot(self):
        for many in slow.NO_MANY + slow.ODD_THINGS:
            for seen, unseen in (((), ()), ("text", ()), ((), None), ([], []), (((1, 0),), ((0, 1),)), (None, "text")):
                self.check(NoNumber, many, seen, unseen)

    def test_no_lot_of_either(self):
        for lot in slow.NO_LOTS_OF_FOUR:
            self.check(NoLot, 4, lot, (), "^seen ")
            self.check(NoLot, 4, (), lot, "^unseen ")
            self.check(NoLot, 4, ((0, 1),), lot, "^unseen ")

    def test_no_lot_of_seen_ahead_of_unseen(self):
        for lot in slow.NO_LOTS_OF_FOUR:
            self.check(NoLot, 4, lot, lot, "^seen ")
            self.check(NoLot, 4, lot, "text", "^seen ")
            self.check(NoLot, 4, [], lot, "^seen ")

    def test_no_lot_also_where_there_would_be_none(self):
        self.check(NoLot, 4, ((0, 2), (1, 3)), [(0, 1)])
        self.check(NoLot, 4, [(0, 2)], ((0, 1),))

    def test_places_hang_on_many(self):
        self.check(NoLot, 1, ((0, 1),), ())
        self.check(NoLot, 1, (), ((0, 1),))
        self.check(NoLot, 11, ((0, 11),), ())
        self.check(NoLot, 11, (), ((0, 11),))
        self.assertEqual(lots_with(12, ((0, 11),), ()), lots_with(11, (), ()))

    def test_lots_that_cannot_be_are_no_wrong_arguments(self):
        self.assertEqual(told(4, ((0, 2), (1, 3)), ()), (0, 0, None, None))
        self.assertEqual(lots_with(3, ((0, 2),), ()), 1)


if __name__ == "__main__":
    unittest.main()
