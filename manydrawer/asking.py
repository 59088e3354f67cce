"""Asking a cabinet for its cards, by number, by rank and between marks."""

from manydrawer.drawers import is_at, place_of
from manydrawer.errors import NoCard


def note_of(top, number):
    cards = top[0]
    below = top[1]
    place = place_of(cards, number)
    if is_at(cards, place, number):
        return cards[place][1]
    if len(below) == 0:
        return None
    return note_of(below[place], number)


def rank_of(top, number):
    below = top[1]
    place = place_of(top[0], number)
    if len(below) == 0:
        return place
    ahead = place + sum([under[2] for under in below[:place]])
    return ahead + rank_of(below[place], number)


# Here a card is known to have the rank, so the walk to the right ends ahead of the last drawer or in it.
def card_with(drawer, rank):
    cards = drawer[0]
    below = drawer[1]
    if len(below) == 0:
        return cards[rank]
    place = 0
    rest = rank
    while rest > below[place][2]:
        rest = rest - below[place][2] - 1
        place = place + 1
    if rest == below[place][2]:
        return cards[place]
    return card_with(below[place], rest)


def card_at(top, rank):
    if rank < 0 or rank >= top[2]:
        raise NoCard("no card has this rank")
    return card_with(top, rank)


# A low mark greater than the high one needs no case of its own: then no drawer has a start ahead of its end.
def between(top, low, high):
    cards = top[0]
    below = top[1]
    start = 0 if low is None else place_of(cards, low)
    # Numbers are whole, so those no greater than the high mark are those smaller than the next number.
    end = len(cards) if high is None else place_of(cards, high + 1)
    if len(below) == 0:
        return list(cards[start:end])
    row = []
    for place in range(start, end):
        row.extend(between(below[place], low, high))
        row.append(cards[place])
    row.extend(between(below[end], low, high))
    return row
