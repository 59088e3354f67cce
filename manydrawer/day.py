"""A day: deeds done one after the other, from a cabinet without cards on."""

from manydrawer.asking import between, card_at, note_of, rank_of
from manydrawer.changing import put_in, take_out
from manydrawer.drawers import check_width, drawer_of
from manydrawer.errors import NoCard


def asked(top, deed):
    kind = deed[0]
    if kind == "find":
        return note_of(top, deed[1])
    if kind == "rank":
        return rank_of(top, deed[1])
    if kind == "nth":
        return card_at(top, deed[1])
    return between(top, deed[1], deed[2])


def done(width, top, deed):
    kind = deed[0]
    if kind == "put":
        return (note_of(top, deed[1]), put_in(width, top, deed[1], deed[2]))
    if kind == "take":
        return (note_of(top, deed[1]), take_out(width, top, deed[1]))
    return (asked(top, deed), top)


def done_or_refused(width, top, deed):
    try:
        return done(width, top, deed)
    except NoCard:
        return (None, top)


# The answers and the top drawers come of one walk, so that they always tell the same day.
def steps(width, deeds):
    check_width(width)
    top = drawer_of((), ())
    row = []
    for deed in deeds:
        step = done_or_refused(width, top, deed)
        row.append(step)
        top = step[1]
    return row


def answers(width, deeds):
    return [step[0] for step in steps(width, deeds)]


def tops(width, deeds):
    return [step[1] for step in steps(width, deeds)]
