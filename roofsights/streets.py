"""A street that is kept, house by house."""

from roofsights.checks import MOST_HOUSES, is_height, is_place, is_whole_within
from roofsights.errors import Full, NoHeight, NoHouse, NoPlace, NothingLeft, Taken
from roofsights.sights import sights_in_row


class Street:
    """Houses in a row, built and pulled down one by one; each deed can be taken back."""

    def __init__(self):
        self.row = ()
        self.earlier_rows = []

    def build(self, place, height):
        """Build a house of this height; those from its place on stand one farther then."""
        if not is_whole_within(place, 0, len(self.row)):
            raise NoPlace("place must be a whole number from 0 to how many houses there are")
        if len(self.row) >= MOST_HOUSES:
            raise Full("there are 12 houses, no more can be built")
        if not is_height(height):
            raise NoHeight("height must be a whole number from 0 to 10 ** 9")
        if height in self.row:
            raise Taken("another house has this height")
        self.change_to(self.row[:place] + (height,) + self.row[place:])

    def pull(self, house):
        """Pull down the house at this place."""
        if not is_place(len(self.row), house):
            raise NoHouse("house must be the place of one")
        self.change_to(self.row[:house] + self.row[house + 1:])

    def back(self):
        """Take back what was done last."""
        if not self.earlier_rows:
            raise NothingLeft("there is nothing left to take back")
        self.row = self.earlier_rows.pop()

    def change_to(self, row):
        self.earlier_rows.append(self.row)
        self.row = row

    def heights(self):
        """Tell the heights of all houses."""
        return self.row

    def sights(self):
        """Tell all pairs of houses who see one another, as a lot."""
        return sights_in_row(self.row)

    def from_ends(self):
        """Tell which houses are seen from the left end, and which from the right one."""
        return higher_than_all_ahead(self.row), higher_than_all_behind(self.row)

    def __len__(self):
        return len(self.row)

    def __eq__(self, other):
        return isinstance(other, Street) and self.row == other.row


def higher_than_all_ahead(row):
    return tuple([
        house
        for house, height in enumerate(row)
        if all([before < height for before in row[:house]])
    ])


def higher_than_all_behind(row):
    return tuple([
        house
        for house, height in enumerate(row)
        if all([behind < height for behind in row[house + 1:]])
    ])
