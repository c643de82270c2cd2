"""The trees of higher and lower houses that orders of heights and lots of sights are read off.

A gap is a pair (left, right) of places all houses between which are lower than both;
the places -1 and many stand for the open ends of the row. The highest house in a gap
sees the houses at both sides of the gap and parts it into two narrower ones, and
nobody sees over it but the two at the sides. Every sight is one of a house with a side
of the gap in which it is the highest.

So an order of heights has one tree of such choices in the gap (-1, many). Several
orders, and trees, have one lot, but house 0 can be the highest in each lot that can
be, and then the lot settles the tree: lots are trees in the gap (0, many).
"""


def made_of_trees(many, seen, unseen, left, maker):
    """Tell what the maker makes of all trees in the gap (left, many), None where there is none.

    Trees have all sights of seen and none of unseen. The maker is an object with the
    methods bare(), what is made of a gap without houses; joined(own, before, behind),
    what is made of a house with its own sights, and of the gaps at its two sides; and
    chosen(parts), what is made of all houses that can be the highest in a gap.
    """
    made = {}
    for gap in gaps_within(left, many):
        if gap[1] - gap[0] == 1:
            made[gap] = maker.bare()
        else:
            parts = parts_of_gap(many, seen, unseen, gap, maker, made)
            made[gap] = maker.chosen(parts) if parts else None
    return made[(left, many)]


def gaps_within(left, right):
    # Narrow ones come first, since wider ones are made of them.
    return [
        (start, start + width)
        for width in range(1, right - left + 1)
        for start in range(left, right - width + 1)
    ]


def parts_of_gap(many, seen, unseen, gap, maker, made):
    left, right = gap
    return [
        maker.joined(sights_to_sides(many, gap, house), made[(left, house)], made[(house, right)])
        for house in houses_that_fit(seen, unseen, gap)
        if made[(left, house)] is not None and made[(house, right)] is not None
    ]


def sights_to_sides(many, gap, house):
    left, right = gap
    to_left = ((left, house),) if left >= 0 else ()
    to_right = ((house, right),) if right < many else ()
    return to_left + to_right


def houses_that_fit(seen, unseen, gap):
    """Tell which houses may be the highest in a gap for all that is known."""
    left, right = gap
    # The two at the sides see over every house in the gap. A sight that reaches
    # beyond a side was ruled out, or was that of two sides, when that side was chosen.
    inside = [(one, other) for one, other in seen if left <= one and other <= right and (one, other) != gap]
    return [
        house
        for house in range(left + 1, right)
        if (left, house) not in unseen
        and (house, right) not in unseen
        and not any([one < house < other for one, other in inside])
    ]
