"""Putting cards into a cabinet and taking them out of it."""

from manydrawer.drawers import drawer_of, half_of, is_at, place_of, spliced
from manydrawer.errors import NoCard


def parted(width, drawer):
    half = half_of(width)
    cards = drawer[0]
    below = drawer[1]
    left = drawer_of(cards[:half], below[:half + 1])
    right = drawer_of(cards[half + 1:], below[half + 1:])
    return (left, cards[half], right)


def with_under_parted(width, drawer, place, under):
    cards = drawer[0]
    below = drawer[1]
    if len(under[0]) <= width:
        return drawer_of(cards, spliced(below, place, place + 1, (under,)))
    parts = parted(width, under)
    return drawer_of(
        spliced(cards, place, place, (parts[1],)),
        spliced(below, place, place + 1, (parts[0], parts[2])),
    )


# What comes back may have a card too many: only the drawer over it can take the card that goes up.
def laid_in(width, drawer, number, note):
    cards = drawer[0]
    below = drawer[1]
    place = place_of(cards, number)
    if is_at(cards, place, number):
        return drawer_of(spliced(cards, place, place + 1, ((number, note),)), below)
    if len(below) == 0:
        return drawer_of(spliced(cards, place, place, ((number, note),)), below)
    under = laid_in(width, below[place], number, note)
    return with_under_parted(width, drawer, place, under)


def put_in(width, top, number, note):
    drawer = laid_in(width, top, number, note)
    if len(drawer[0]) <= width:
        return drawer
    parts = parted(width, drawer)
    return drawer_of((parts[1],), (parts[0], parts[2]))


# In the two lendings a bottom drawer needs no case of its own: a slice of no drawers is no drawers.
def lent_by_left(drawer, place):
    cards = drawer[0]
    below = drawer[1]
    left = below[place - 1]
    short = below[place]
    lender = drawer_of(left[0][:-1], left[1][:-1])
    filled = drawer_of((cards[place - 1],) + short[0], left[1][-1:] + short[1])
    return drawer_of(
        spliced(cards, place - 1, place, left[0][-1:]),
        spliced(below, place - 1, place + 1, (lender, filled)),
    )


def lent_by_right(drawer, place):
    cards = drawer[0]
    below = drawer[1]
    short = below[place]
    right = below[place + 1]
    filled = drawer_of(short[0] + (cards[place],), short[1] + right[1][:1])
    lender = drawer_of(right[0][1:], right[1][1:])
    return drawer_of(
        spliced(cards, place, place + 1, right[0][:1]),
        spliced(below, place, place + 2, (filled, lender)),
    )


def joined(drawer, place):
    cards = drawer[0]
    below = drawer[1]
    left = below[place]
    right = below[place + 1]
    one = drawer_of(left[0] + (cards[place],) + right[0], left[1] + right[1])
    return drawer_of(
        spliced(cards, place, place + 1, ()),
        spliced(below, place, place + 2, (one,)),
    )


def mended(width, drawer, place):
    half = half_of(width)
    below = drawer[1]
    if len(below[place][0]) != half - 1:
        return drawer
    if place > 0 and len(below[place - 1][0]) > half:
        return lent_by_left(drawer, place)
    if place + 1 < len(below) and len(below[place + 1][0]) > half:
        return lent_by_right(drawer, place)
    if place > 0:
        return joined(drawer, place - 1)
    return joined(drawer, place)


def with_under_mended(width, cards, below, place, under):
    drawer = drawer_of(cards, spliced(below, place, place + 1, (under,)))
    return mended(width, drawer, place)


def last_out(width, drawer):
    cards = drawer[0]
    below = drawer[1]
    if len(below) == 0:
        return (cards[-1], drawer_of(cards[:-1], ()))
    place = len(below) - 1
    pair = last_out(width, below[place])
    return (pair[0], with_under_mended(width, cards, below, place, pair[1]))


# What comes back may have a card too few: only the drawer over it can mend it.
def taken_from(width, drawer, number):
    cards = drawer[0]
    below = drawer[1]
    place = place_of(cards, number)
    found = is_at(cards, place, number)
    if len(below) == 0:
        if not found:
            raise NoCard("no card has this number")
        return drawer_of(spliced(cards, place, place + 1, ()), ())
    if not found:
        under = taken_from(width, below[place], number)
        return with_under_mended(width, cards, below, place, under)
    # The stand-in comes in ahead of the mending, which may move it on to another drawer.
    pair = last_out(width, below[place])
    with_stand_in = spliced(cards, place, place + 1, (pair[0],))
    return with_under_mended(width, with_stand_in, below, place, pair[1])


def take_out(width, top, number):
    drawer = taken_from(width, top, number)
    if len(drawer[0]) == 0 and len(drawer[1]) == 1:
        return drawer[1][0]
    return drawer
