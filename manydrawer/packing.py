"""Packing a row of cards into a cabinet at once."""

from manydrawer.drawers import check_width, drawer_of
from manydrawer.errors import NotRising


def check_rising(cards):
    for place in range(1, len(cards)):
        if cards[place][0] <= cards[place - 1][0]:
            raise NotRising("a card has a number no greater than that of the card ahead of it")


# One more than the cards that fit on so many levels: the measure in which drawers side by side just add up.
def room_on(width, levels):
    room = 1
    for level in range(levels):
        room = room * (width + 1)
    return room


def fewest_levels(width, count):
    levels = 1
    while count + 1 > room_on(width, levels):
        levels = levels + 1
    return levels


def even_parts(total, count):
    least = total // count
    greater = total % count
    return [least + 1] * greater + [least] * (count - greater)


def packed_on(width, levels, cards):
    if levels == 1:
        return drawer_of(cards, ())
    count = len(cards) // room_on(width, levels - 1) + 1
    kept = ()
    below = ()
    start = 0
    # Each drawer and the card kept behind it are one part; behind the last drawer the slice is empty.
    for part in even_parts(len(cards) + 1, count):
        end = start + part - 1
        below = below + (packed_on(width, levels - 1, cards[start:end]),)
        kept = kept + cards[end:end + 1]
        start = end + 1
    return drawer_of(kept, below)


def packed(width, cards):
    check_width(width)
    check_rising(cards)
    return packed_on(width, fewest_levels(width, len(cards)), tuple(cards))
