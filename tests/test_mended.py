import itertools
import unittest

from helper import HUGE, Model, cards_in, drawer, faults, frozen, thawed
from manydrawer.changing import mended


class BottomDrawers(unittest.TestCase):
    """Width 4, so that half is 2, where no other width is told."""

    def test_left_lends_at_the_last_place(self):
        handed = drawer([10, 20], drawer([1, 2]), drawer([11, 12, 13]), drawer([21]))
        answer = drawer([10, 13], drawer([1, 2]), drawer([11, 12]), drawer([20, 21]))
        self.assertEqual(mended(4, handed, 2), answer)
        self.assertEqual(handed, drawer([10, 20], drawer([1, 2]), drawer([11, 12, 13]), drawer([21])))

    def test_left_lends_ahead_of_right(self):
        handed = drawer([10, 20], drawer([1, 2, 3]), drawer([11]), drawer([21, 22, 23, 24]))
        answer = drawer([3, 20], drawer([1, 2]), drawer([10, 11]), drawer([21, 22, 23, 24]))
        self.assertEqual(mended(4, handed, 1), answer)

    def test_left_lends_just_one_card(self):
        handed = drawer([10], drawer([1, 2, 3, 4]), drawer([11]))
        self.assertEqual(mended(4, handed, 1), drawer([4], drawer([1, 2, 3]), drawer([10, 11])))

    def test_right_lends_at_the_first_place(self):
        handed = drawer([10, 20], drawer([1]), drawer([11, 12, 13]), drawer([21, 22]))
        answer = drawer([11, 20], drawer([1, 10]), drawer([12, 13]), drawer([21, 22]))
        self.assertEqual(mended(4, handed, 0), answer)

    def test_right_lends_where_left_can_not(self):
        handed = drawer([10, 20], drawer([1, 2]), drawer([11]), drawer([21, 22, 23]))
        answer = drawer([10, 21], drawer([1, 2]), drawer([11, 20]), drawer([22, 23]))
        self.assertEqual(mended(4, handed, 1), answer)

    def test_right_lends_just_one_card(self):
        handed = drawer([10], drawer([1]), drawer([11, 12, 13, 14]))
        self.assertEqual(mended(4, handed, 0), drawer([11], drawer([1, 10]), drawer([12, 13, 14])))

    def test_joined_with_left_at_the_last_place(self):
        handed = drawer([10, 20], drawer([1, 2]), drawer([11, 12]), drawer([21]))
        self.assertEqual(mended(4, handed, 2), drawer([10], drawer([1, 2]), drawer([11, 12, 20, 21])))

    def test_joined_with_left_ahead_of_right(self):
        handed = drawer([10, 20], drawer([1, 2]), drawer([11]), drawer([21, 22]))
        self.assertEqual(mended(4, handed, 1), drawer([20], drawer([1, 2, 10, 11]), drawer([21, 22])))

    def test_joined_with_right_at_the_first_place(self):
        handed = drawer([10, 20], drawer([1]), drawer([11, 12]), drawer([21, 22]))
        self.assertEqual(mended(4, handed, 0), drawer([20], drawer([1, 10, 11, 12]), drawer([21, 22])))

    def test_joining_may_leave_no_card(self):
        self.assertEqual(mended(4, drawer([10], drawer([1]), drawer([11, 12])), 0), drawer([], drawer([1, 10, 11, 12])))
        self.assertEqual(mended(4, drawer([10], drawer([1, 2]), drawer([11])), 1), drawer([], drawer([1, 2, 10, 11])))

    def test_only_the_next_drawers_lend(self):
        handed = drawer([10, 20, 30], drawer([1, 2, 3]), drawer([11, 12]), drawer([21]), drawer([31, 32]))
        answer = drawer([10, 30], drawer([1, 2, 3]), drawer([11, 12, 20, 21]), drawer([31, 32]))
        self.assertEqual(mended(4, handed, 2), answer)
        handed = drawer([10, 20], drawer([1]), drawer([11, 12]), drawer([21, 22, 23]))
        self.assertEqual(mended(4, handed, 0), drawer([20], drawer([1, 10, 11, 12]), drawer([21, 22, 23])))

    def test_widths_two_and_three(self):
        for width in (2, 3):
            left_lends = mended(width, drawer([3], drawer([1, 2]), drawer([])), 1)
            self.assertEqual(left_lends, drawer([2], drawer([1]), drawer([3])))
            right_lends = mended(width, drawer([3], drawer([]), drawer([4, 5])), 0)
            self.assertEqual(right_lends, drawer([4], drawer([3]), drawer([5])))
            self.assertEqual(mended(width, drawer([3], drawer([1]), drawer([])), 1), drawer([], drawer([1, 3])))
            self.assertEqual(mended(width, drawer([3], drawer([]), drawer([4])), 0), drawer([], drawer([3, 4])))

    def test_odd_width(self):
        handed = drawer([10], drawer([1, 2]), drawer([11]))
        self.assertEqual(mended(5, handed, 1), drawer([], drawer([1, 2, 10, 11])))
        handed = drawer([10], drawer([1]), drawer([11, 12, 13, 14, 15]))
        self.assertEqual(mended(5, handed, 0), drawer([11], drawer([1, 10]), drawer([12, 13, 14, 15])))

    def test_as_plain_tuples(self):
        handed = (((0, "o"),), ((((-HUGE, ""), (-1, "e")), (), 2), ((), (), 0)), 3)
        answer = (((-1, "e"),), ((((-HUGE, ""),), (), 1), (((0, "o"),), (), 1)), 3)
        self.assertEqual(mended(2, handed, 1), answer)

    def test_six_hundred_cards(self):
        handed = drawer([600], drawer(range(600)), drawer(range(601, 900)))
        answer = drawer([599], drawer(range(599)), drawer(range(600, 900)))
        self.assertEqual(mended(600, handed, 1), answer)


class DrawersUnderTheShortOne(unittest.TestCase):
    def test_left_lends(self):
        handed = drawer([12], drawer([4, 8], drawer([2]), drawer([6, 7]), drawer([10, 11])), drawer([], drawer([14])))
        left = drawer([4], drawer([2]), drawer([6, 7]))
        right = drawer([12], drawer([10, 11]), drawer([14]))
        for width in (2, 3):
            self.assertEqual(mended(width, handed, 1), drawer([8], left, right))
        self.assertEqual((left[2], right[2]), (4, 4))

    def test_right_lends(self):
        handed = drawer([4], drawer([], drawer([2])), drawer([8, 12], drawer([6, 7]), drawer([10]), drawer([14, 15])))
        left = drawer([4], drawer([2]), drawer([6, 7]))
        right = drawer([12], drawer([10]), drawer([14, 15]))
        for width in (2, 3):
            self.assertEqual(mended(width, handed, 0), drawer([8], left, right))

    def test_joined_with_left(self):
        handed = drawer([8], drawer([4], drawer([2]), drawer([6])), drawer([], drawer([10, 11])))
        answer = drawer([], drawer([4, 8], drawer([2]), drawer([6]), drawer([10, 11])))
        for width in (2, 3):
            self.assertEqual(mended(width, handed, 1), answer)

    def test_joined_with_right(self):
        handed = drawer([4], drawer([], drawer([2, 3])), drawer([8], drawer([6]), drawer([10])))
        answer = drawer([], drawer([4, 8], drawer([2, 3]), drawer([6]), drawer([10])))
        for width in (2, 3):
            self.assertEqual(mended(width, handed, 0), answer)

    def test_among_three_at_a_greater_width(self):
        full = [branch(first, 3) for first in (100, 200, 300)]
        least = [branch(first, 2) for first in (100, 200, 300)]
        short = [branch(first, 1) for first in (100, 200, 300)]
        tops = [200, 300]
        left_lends = mended(5, drawer(tops, least[0], full[1], short[2]), 2)
        filled = drawer([300, 310], full[1][1][3], *short[2][1])
        self.assertEqual(left_lends, drawer([200, 230], least[0], drawer([210, 220], *full[1][1][:3]), filled))
        right_lends = mended(5, drawer(tops, short[0], full[1], least[2]), 0)
        filled = drawer([110, 200], *short[0][1] + full[1][1][:1])
        self.assertEqual(right_lends, drawer([210, 300], filled, drawer([220, 230], *full[1][1][1:]), least[2]))
        joined = mended(5, drawer(tops, least[0], short[1], least[2]), 1)
        one = drawer([110, 120, 200, 210], *least[0][1] + short[1][1])
        self.assertEqual(joined, drawer([300], one, least[2]))
        joined = mended(5, drawer(tops, short[0], least[1], full[2]), 0)
        one = drawer([110, 200, 210, 220], *short[0][1] + least[1][1])
        self.assertEqual(joined, drawer([300], one, full[2]))


class NotShort(unittest.TestCase):
    def test_the_drawer_as_it_is(self):
        handed = drawer([10, 20], drawer([1, 2]), drawer([11, 12, 13]), drawer([21, 22, 23, 24]))
        for place in (0, 1, 2):
            self.assertEqual(mended(4, handed, place), handed)
            self.assertEqual(mended(5, handed, place), handed)

    def test_at_the_smallest_widths(self):
        handed = drawer([4], drawer([2]), drawer([6, 7]))
        for width in (2, 3):
            for place in (0, 1):
                self.assertEqual(mended(width, handed, place), handed)

    def test_with_drawers_under(self):
        handed = drawer([200], branch(100, 2), branch(200, 3))
        for place in (0, 1):
            self.assertEqual(mended(4, handed, place), handed)

    def test_a_short_drawer_elsewhere_stays(self):
        handed = drawer([10, 20], drawer([1]), drawer([11, 12, 13]), drawer([21, 22]))
        self.assertEqual(mended(4, handed, 1), handed)
        self.assertEqual(mended(4, handed, 2), handed)


class EveryForm(unittest.TestCase):
    """Three drawers under one, the one at each place short, its neighbours with each count of cards."""

    def test_against_the_model(self):
        for width in range(2, 8):
            half = width // 2
            for counts in itertools.product(range(half, width + 1), repeat=2):
                for place in (0, 1, 2):
                    filled = list(counts)
                    filled.insert(place, half - 1)
                    self.check(width, drawer([200, 300], *[plain(100 * k + 100, filled[k]) for k in range(3)]), place)
                    if width < 6:
                        below = [branch(100 * k + 100, filled[k], half) for k in range(3)]
                        self.check(width, drawer([200, 300], *below), place)

    def check(self, width, handed, place):
        before = repr(handed)
        answer = mended(width, handed, place)
        self.assertEqual(repr(handed), before)
        self.assertEqual(faults(width, answer), [])
        self.assertEqual(cards_in(answer), cards_in(handed))
        box = thawed(handed)
        Model(width).mend(box.below[place])
        self.assertEqual(answer, frozen(box))


def plain(first, count):
    return drawer([first + 1 + k for k in range(count)])


def branch(first, count, least=2):
    """A drawer with this many cards, and drawers with `least` or one more cards under it."""
    numbers = [first + 10 * k for k in range(1, count + 1)]
    return drawer(numbers, *[plain(first + 10 * k, least + k % 2) for k in range(count + 1)])


if __name__ == "__main__":
    unittest.main()
