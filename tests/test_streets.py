"""[12], and [2] so far as it speaks of a street."""

import random
import unittest

import slow
from roofsights.errors import Full, NoHeight, NoHouse, NoPlace, NothingLeft, RoofError, Taken
from roofsights.sights import sights
from roofsights.streets import Street

MOST = 10 ** 9

# A place that is none for a street of any length; a height that is none.
NO_PLACES = slow.ODD_THINGS + (13, 14, 100, (0,), [0], "0", ((0, 1),))
NO_HEIGHTS = slow.ODD_THINGS + (MOST + 1, -1, (5,), [5], "5", ((5,),))


def street_of(*heights):
    street = Street()
    for place, height in enumerate(heights):
        street.build(place, height)
    return street


def told(street):
    return street.heights(), street.sights(), street.from_ends(), len(street)


class ByHand:
    """A street as a list, with a copy of it before each deed; refusals are told as classes."""

    def __init__(self):
        self.row = []
        self.before = []

    def refusal_of_build(self, place, height):
        if type(place) is not int or place not in range(len(self.row) + 1):
            return NoPlace
        if len(self.row) == 12:
            return Full
        if type(height) is not int or not 0 <= height <= MOST:
            return NoHeight
        return Taken if height in self.row else None

    def build(self, place, height):
        refusal = self.refusal_of_build(place, height)
        if refusal is None:
            self.before.append(list(self.row))
            self.row.insert(place, height)
        return refusal

    def pull(self, house):
        if type(house) is not int or house not in range(len(self.row)):
            return NoHouse
        self.before.append(list(self.row))
        del self.row[house]
        return None

    def back(self):
        if not self.before:
            return NothingLeft
        self.row = self.before.pop()
        return None

    def told(self):
        heights = tuple(self.row)
        ends = slow.ends_of(heights) if heights else ((), ())
        return heights, slow.sights_of(heights), ends, len(heights)


def drawn_deed(draw, many, lean):
    """A deed by its name and what is handed in; lean is how often one builds."""
    if draw.random() < lean:
        place = draw.choice((draw.randint(0, many), draw.randint(0, many), many, draw.randint(-2, 14)))
        height = draw.choice((draw.randint(0, 30), draw.randint(0, MOST), draw.randint(-3, 3), MOST, MOST + 1))
        if draw.random() < 0.1:
            place = draw.choice(NO_PLACES)
        if draw.random() < 0.1:
            height = draw.choice(NO_HEIGHTS)
        return "build", (place, height)
    if draw.random() < 0.5:
        return "back", ()
    houses = (draw.randint(-1, many + 1), draw.randint(0, max(0, many - 1)), draw.choice(NO_PLACES))
    return "pull", (draw.choice(houses),)


class LongRowsOfDeedsTest(unittest.TestCase):
    def do(self, street, by_hand, name, handed):
        expected = getattr(by_hand, name)(*handed)
        try:
            self.assertIsNone(getattr(street, name)(*handed), (name, handed))
            refusal = None
        except RoofError as error:
            refusal = type(error)
        self.assertIs(refusal, expected, (by_hand.row, name, handed))
        self.assertEqual(told(street), by_hand.told(), (name, handed))
        return refusal

    def test_drawn_deeds_beside_a_list_kept_by_hand(self):
        met = set()
        for seed, lean in enumerate((0.5, 0.7, 0.9, 0.6, 0.8, 0.95)):
            draw = random.Random(seed)
            street, by_hand = Street(), ByHand()
            for _ in range(600):
                met.add(self.do(street, by_hand, *drawn_deed(draw, len(by_hand.row), lean)))
            while by_hand.before:
                self.do(street, by_hand, "back", ())
            self.assertEqual(street.heights(), ())
            for _ in range(2):
                self.assertIs(self.do(street, by_hand, "back", ()), NothingLeft)
            self.do(street, by_hand, "build", (0, 5))
        self.assertEqual(met, {None, NoPlace, Full, NoHeight, Taken, NoHouse, NothingLeft})

    def test_built_at_each_place(self):
        for many in range(12):
            heights = tuple(range(10, 10 + many))
            for place in range(many + 1):
                street = street_of(*heights)
                self.assertIsNone(street.build(place, 99))
                self.assertEqual(street.heights(), heights[:place] + (99,) + heights[place:])
                self.assertEqual(len(street), many + 1)

    def test_pulled_down_at_each_place(self):
        for many in range(1, 13):
            heights = tuple(range(10, 10 + many))
            for house in range(many):
                street = street_of(*heights)
                self.assertIsNone(street.pull(house))
                self.assertEqual(street.heights(), heights[:house] + heights[house + 1:])
                self.assertIsNone(street.back())
                self.assertEqual(street.heights(), heights)


class RefusalsTest(unittest.TestCase):
    def check(self, kind, street, name, *handed):
        """What is refused leaves the street, and what can be taken back, as they were."""
        before = told(street)
        with self.assertRaises(kind, msg=repr((name, handed))):
            getattr(street, name)(*handed)
        self.assertEqual(told(street), before, (name, handed))

    def taken_back(self, street):
        rows = []
        while len(rows) < 1000:
            try:
                street.back()
            except NothingLeft:
                return rows
            rows.append(street.heights())
        self.fail("too much can be taken back")

    def test_no_place(self):
        for many in (0, 1, 5, 12):
            street = street_of(*range(many))
            for place in NO_PLACES + (many + 1, -1):
                for height in (50, 0, -1, True, None):
                    self.check(NoPlace, street, "build", place, height)
            self.assertEqual(len(self.taken_back(street)), many)

    def test_full(self):
        street = street_of(*range(12))
        for place in range(13):
            for height in (50, 0, 11, MOST, MOST + 1, -1, True, None, "text", [5]):
                self.check(Full, street, "build", place, height)
        street.pull(3)
        self.assertIsNone(street.build(3, 50))
        self.check(Full, street, "build", 0, 51)

    def test_no_height(self):
        for many in (0, 1, 5, 11):
            street = street_of(*range(many))
            for height in NO_HEIGHTS:
                for place in (0, many):
                    self.check(NoHeight, street, "build", place, height)
            self.assertEqual(len(self.taken_back(street)), many)

    def test_the_least_and_the_greatest_height(self):
        self.assertEqual(street_of(0, MOST).heights(), (0, MOST))

    def test_taken(self):
        heights = (7, 0, MOST, 1, 12)
        street = street_of(*heights)
        for height in heights:
            for place in range(6):
                self.check(Taken, street, "build", place, height)
        street.pull(0)
        self.assertIsNone(street.build(4, 7))
        self.assertEqual(street.heights(), (0, MOST, 1, 12, 7))

    def test_a_truth_is_no_height_that_is_taken(self):
        street = street_of(0, 1)
        self.check(NoHeight, street, "build", 0, True)
        self.check(NoHeight, street, "build", 0, False)
        self.check(NoPlace, street, "build", True, 5)
        self.check(NoPlace, street, "build", False, 5)
        self.check(NoHouse, street, "pull", True)
        self.check(NoHouse, street, "pull", False)

    def test_several_at_once(self):
        full = street_of(*range(12))
        self.check(NoPlace, full, "build", 13, 5)
        self.check(NoPlace, full, "build", True, True)
        self.check(NoPlace, full, "build", None, 3)
        self.check(Full, full, "build", 12, 3)
        self.check(Full, full, "build", 0, None)
        street = street_of(3, 4)
        self.check(NoPlace, street, "build", 3, 3)
        self.check(NoPlace, street, "build", -1, -1)
        self.check(NoHeight, street, "build", 2, "3")

    def test_no_house(self):
        for many in (0, 1, 5, 12):
            street = street_of(*range(many))
            for house in NO_PLACES + (many, many + 1, -1):
                self.check(NoHouse, street, "pull", house)
            self.assertEqual(len(self.taken_back(street)), many)

    def test_nothing_left(self):
        street = Street()
        self.check(NothingLeft, street, "back")
        street.build(0, 5)
        street.pull(0)
        self.assertEqual(self.taken_back(street), [(5,), ()])
        self.check(NothingLeft, street, "back")
        self.check(NothingLeft, street, "back")
        street.build(0, 6)
        self.assertEqual(street.heights(), (6,))

    def test_refused_deeds_are_not_taken_back(self):
        street = street_of(3, 1, 2)
        street.pull(1)
        for handed in ((9, 9), (0, -1), (0, 3)):
            self.check(RoofError, street, "build", *handed)
        for house in (2, None):
            self.check(RoofError, street, "pull", house)
        self.assertEqual(self.taken_back(street), [(3, 1, 2), (3, 1), (3,), ()])

    def test_deeds_after_some_were_taken_back(self):
        street = street_of(3, 1, 2)
        street.back()
        street.build(0, 8)
        street.back()
        street.pull(0)
        self.assertEqual(street.heights(), (1,))
        self.assertEqual(self.taken_back(street), [(3, 1), (3,), ()])


class ToldTest(unittest.TestCase):
    def test_no_house(self):
        self.assertEqual(told(Street()), ((), (), ((), ()), 0))

    def test_one_house(self):
        self.assertEqual(told(street_of(0)), ((0,), (), ((0,), (0,)), 1))

    def test_an_example(self):
        street = street_of(5, 1, 4, 2, 6, 3)
        self.assertEqual(street.sights(), sights((5, 1, 4, 2, 6, 3)))
        self.assertEqual(street.from_ends(), ((0, 4), (4, 5)))

    def test_drawn_rows(self):
        draw = random.Random(20)
        for many in range(1, 13):
            for _ in range(10):
                heights = tuple(draw.sample(range(MOST + 1), many))
                street = street_of(*heights)
                self.assertEqual(told(street), (heights, sights(heights), slow.ends_of(heights), many))

    def test_as_much_greater_and_so_many_times(self):
        draw = random.Random(21)
        for many in range(1, 13):
            heights = draw.sample(range(1000), many)
            seen = told(street_of(*heights))[1:]
            self.assertEqual(told(street_of(*[height + 12345 for height in heights]))[1:], seen)
            self.assertEqual(told(street_of(*[height * 777 for height in heights]))[1:], seen)

    def test_kinds_of_values(self):
        for street in (Street(), street_of(3), street_of(3, 1, 2)):
            self.assertIs(type(street.heights()), tuple)
            self.assertIs(type(street.sights()), tuple)
            self.assertEqual([type(part) for part in (street.from_ends(), *street.from_ends())], [tuple] * 3)
            self.assertIs(type(len(street)), int)

    def test_what_was_told_stays_when_the_street_changes(self):
        street = street_of(3, 1, 2)
        before = told(street)
        street.build(1, 9)
        street.pull(0)
        self.assertEqual(before, told(street_of(3, 1, 2)))

    def test_two_streets_are_apart(self):
        one, other = Street(), Street()
        one.build(0, 5)
        self.assertEqual(told(other), told(Street()))
        with self.assertRaises(NothingLeft):
            other.back()


class EqualTest(unittest.TestCase):
    def check(self, one, other, equal):
        for first, second in ((one, other), (other, one)):
            self.assertIs(first == second, equal)
            self.assertIs(first != second, not equal)

    def test_the_same_heights_by_other_deeds(self):
        built_otherwise = street_of(1, 2)
        built_otherwise.build(0, 3)
        built_otherwise.build(3, 8)
        built_otherwise.pull(3)
        self.check(street_of(3, 1, 2), built_otherwise, True)
        built_otherwise.back()
        self.check(street_of(3, 1, 2), built_otherwise, False)
        built_otherwise.back()
        self.check(street_of(3, 1, 2), built_otherwise, True)

    def test_no_houses(self):
        emptied = street_of(5)
        emptied.pull(0)
        self.check(Street(), emptied, True)
        self.check(Street(), street_of(5), False)

    def test_itself(self):
        for street in (Street(), street_of(3, 1)):
            self.check(street, street, True)

    def test_other_heights(self):
        for heights in ((3, 2, 1), (1, 2), (1, 2, 3, 4), (1, 2, 4), (2, 4, 6), (1, 3, 2)):
            self.check(street_of(1, 2, 3), street_of(*heights), False)

    def test_anything_else(self):
        for street in (Street(), street_of(0), street_of(1), street_of(3, 1, 2)):
            things = slow.ODD_THINGS + (street.heights(), list(street.heights()), len(street), street.sights(), 0, ())
            for thing in things:
                self.check(street, thing, False)


if __name__ == "__main__":
    unittest.main()
