"""Drawers: the tuples (cards, below, held) that a cabinet is made of."""

from manydrawer.errors import NoWidth


def check_width(width):
    if width < 2:
        raise NoWidth("the width is below 2")


def half_of(width):
    return width // 2


# Every drawer is made here, so that no change can leave a wrong count held behind.
def drawer_of(cards, below):
    return (cards, below, len(cards) + sum([under[2] for under in below]))


def spliced(row, start, end, parts):
    return row[:start] + parts + row[end:]


def place_of(cards, number):
    place = 0
    while place < len(cards) and cards[place][0] < number:
        place = place + 1
    return place


# Among rising cards, only the one at the place of a number can have that number.
def is_at(cards, place, number):
    return place < len(cards) and cards[place][0] == number


def levels_of(top):
    levels = 1
    drawer = top
    # All bottom drawers lie equally deep, so the first way down tells for all.
    while len(drawer[1]) > 0:
        drawer = drawer[1][0]
        levels = levels + 1
    return levels
