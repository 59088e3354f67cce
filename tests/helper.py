"""What the tests share: making drawers by hand, the rules of points 2 to 5, and a second way of doing each deed."""

EMPTY = ((), (), 0)
HUGE = 10 ** 99 + 7

# Cabinets written out, of one, two and three levels, each with the widths that it may have.
ONE_LEVEL = (((-HUGE, "lowest of all"), (-3, ""), (0, " "), (8, "a, b; c: #1!")), (), 4)
TWO_LEVELS = (
    ((-5, ""), (20, "two\nrows")),
    (
        (((-HUGE, "- ~ -"), (-9, "")), (), 2),
        (((0, "nought"), (7, "  "), (19, "")), (), 3),
        (((21, "'"), (HUGE, "None")), (), 2),
    ),
    9,
)
THREE_LEVELS = (
    ((0, "top"),),
    (
        (
            ((-40, ""), (-20, "left")),
            (
                (((-HUGE - 1, ""), (-HUGE, "x y")), (), 2),
                (((-30, "0"),), (), 1),
                (((-12, "("), (-10, ")")), (), 2),
            ),
            7,
        ),
        (
            ((30, ""),),
            (
                (((10, "\\"),), (), 1),
                (((HUGE, ""), (HUGE + 2, "end")), (), 2),
            ),
            4,
        ),
    ),
    12,
)
SAMPLES = (
    (EMPTY, (2, 3, 4, 600)),
    ((((5, "alone"),), (), 1), (2, 3, 4, 600)),
    (ONE_LEVEL, (4, 5, 9)),
    (TWO_LEVELS, (3, 4, 5)),
    (THREE_LEVELS, (2, 3)),
)
SAMPLE_TOPS = tuple([top for top, widths in SAMPLES])


def card(number):
    return (number, "n" + str(number))


def drawer(numbers, *below):
    """A drawer with cards of these numbers and these drawers under it, however many cards lie in it."""
    cards = tuple([card(number) for number in numbers])
    return (cards, tuple(below), len(cards) + sum([under[2] for under in below]))


def cards_in(top):
    """All cards in and under a drawer, from left to right."""
    cards, below, held = top
    if not below:
        return list(cards)
    row = cards_in(below[0])
    for place, one in enumerate(cards):
        row = row + [one] + cards_in(below[place + 1])
    return row


def numbers_in(top):
    return [number for number, note in cards_in(top)]


def depths(top, depth=1):
    """How deep each bottom drawer lies, from left to right."""
    if not top[1]:
        return [depth]
    row = []
    for under in top[1]:
        row = row + depths(under, depth + 1)
    return row


def faults(width, top, least=0):
    """The rules of points 2 to 4 that a cabinet breaks; `least` is the fewest cards its top drawer may have."""
    found = faults_of_one(width, top, least)
    if found:
        return found
    numbers = numbers_in(top)
    if any([numbers[k] >= numbers[k + 1] for k in range(len(numbers) - 1)]):
        found.append("the numbers don't rise: " + str(numbers))
    if len(set(depths(top))) != 1:
        found.append("the bottom drawers lie unequally deep: " + str(depths(top)))
    return found


def level_faults(width, top):
    """The bounds of point 5 that a cabinet breaks, given that its bottom drawers lie equally deep."""
    count = len(cards_in(top)) + 1
    levels = depths(top)[0]
    found = []
    if count > (width + 1) ** levels:
        found.append("too many cards on %d levels" % levels)
    if levels > 1 and count < 2 * (width // 2 + 1) ** (levels - 1):
        found.append("too few cards on %d levels" % levels)
    return found


def faults_of_one(width, one, least):
    if type(one) is not tuple or len(one) != 3 or type(one[0]) is not tuple or type(one[1]) is not tuple:
        return ["no drawer: " + repr(one)]
    cards, below, held = one
    found = []
    if any([type(each) is not tuple or len(each) != 2 for each in cards]):
        return ["no card among " + repr(cards)]
    if len(cards) > width:
        found.append("too many cards: " + repr(cards))
    if len(cards) < least:
        found.append("too few cards: " + repr(cards))
    if below and (not cards or len(below) != len(cards) + 1):
        found.append("%d drawers under %d cards" % (len(below), len(cards)))
    for under in below:
        found = found + faults_of_one(width, under, width // 2)
    # The drawers under this one are looked at in their turn, so their own counts may be leant on.
    counted = len(cards) + sum([under[2] for under in below if not found])
    if type(held) is not int or held != counted:
        found.append("held is %r, but there are %d cards" % (held, counted))
    return found


def marks_around(top):
    """The number of every card, the numbers right below and above it, and some far from all cards."""
    marks = {0, 1, -10 ** 101, 10 ** 101}
    for number in numbers_in(top):
        marks.update([number - 1, number, number + 1])
    return sorted(marks)


class Notebook:
    """A day kept in a plain dict of notes: what each deed is to answer, without any drawer."""

    def __init__(self):
        self.notes = {}

    def cards(self):
        return sorted(self.notes.items())

    def answer(self, deed):
        kind, first = deed[:2]
        if kind == "put":
            before = self.notes.get(first)
            self.notes[first] = deed[2]
            return before
        if kind == "take":
            return self.notes.pop(first, None)
        if kind == "find":
            return self.notes.get(first)
        if kind == "rank":
            return len([number for number in self.notes if number < first])
        if kind == "nth":
            return self.cards()[first] if 0 <= first < len(self.notes) else None
        low, high = first, deed[2]
        return [
            each for each in self.cards()
            if (low is None or low <= each[0]) and (high is None or each[0] <= high)
        ]


class Box:
    """A drawer that can be changed and knows the drawer over it. Deeds on boxes work upward from the bottom."""

    def __init__(self, over, cards, below):
        self.over = over
        self.cards = cards
        self.below = below
        for under in below:
            under.over = self


class Model:
    """A cabinet of boxes, done step by step as points 8 to 12 tell, to set beside the program's drawers."""

    def __init__(self, width):
        self.width = width
        self.half = width // 2
        self.top = Box(None, [], [])

    def find(self, number):
        """The box in which the number lies or would be laid in, and its place there."""
        box = self.top
        while True:
            place = len([one for one in box.cards if one[0] < number])
            if [one for one in box.cards if one[0] == number] or not box.below:
                return box, place
            box = box.below[place]

    def put(self, number, note):
        box, place = self.find(number)
        if place < len(box.cards) and box.cards[place][0] == number:
            box.cards[place] = (number, note)
            return
        box.cards.insert(place, (number, note))
        while len(box.cards) == self.width + 1:
            box = self.part(box)

    def part(self, box):
        half = self.half
        up = box.cards[half]
        right = Box(None, box.cards[half + 1:], box.below[half + 1:])
        left = Box(None, box.cards[:half], box.below[:half + 1])
        if box.over is None:
            self.top = Box(None, [up], [left, right])
            return self.top
        over = box.over
        place = over.below.index(box)
        over.below[place:place + 1] = [left, right]
        over.cards.insert(place, up)
        left.over = over
        right.over = over
        return over

    def take(self, number):
        """True where the card was there and is taken out."""
        box, place = self.find(number)
        if place == len(box.cards) or box.cards[place][0] != number:
            return False
        if box.below:
            bottom = box.below[place]
            while bottom.below:
                bottom = bottom.below[-1]
            box.cards[place] = bottom.cards.pop()
            box = bottom
        else:
            box.cards.pop(place)
        while box.over is not None and len(box.cards) < self.half:
            self.mend(box)
            box = box.over
        if not self.top.cards and self.top.below:
            self.top = self.top.below[0]
            self.top.over = None
        return True

    def mend(self, box):
        over = box.over
        place = over.below.index(box)
        left = over.below[place - 1] if place > 0 else None
        right = over.below[place + 1] if place < len(over.cards) else None
        if left is not None and len(left.cards) > self.half:
            box.cards.insert(0, over.cards[place - 1])
            over.cards[place - 1] = left.cards.pop()
            if left.below:
                box.below.insert(0, left.below.pop())
                box.below[0].over = box
        elif right is not None and len(right.cards) > self.half:
            box.cards.append(over.cards[place])
            over.cards[place] = right.cards.pop(0)
            if right.below:
                box.below.append(right.below.pop(0))
                box.below[-1].over = box
        elif left is not None:
            self.join(over, place - 1)
        else:
            self.join(over, place)

    def join(self, over, place):
        left, right = over.below[place:place + 2]
        one = Box(over, left.cards + [over.cards[place]] + right.cards, left.below + right.below)
        over.below[place:place + 2] = [one]
        over.cards.pop(place)

    def as_drawer(self):
        return frozen(self.top)


def thawed(one):
    return Box(None, list(one[0]), [thawed(under) for under in one[1]])


def frozen(box):
    below = tuple([frozen(under) for under in box.below])
    return (tuple(box.cards), below, len(box.cards) + sum([under[2] for under in below]))
