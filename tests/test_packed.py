import unittest

from helper import EMPTY, HUGE, card, cards_in, depths, drawer, faults, level_faults
from manydrawer.asking import between, card_at, note_of, rank_of
from manydrawer.changing import put_in, take_out
from manydrawer.errors import DrawerError, NotRising, NoWidth
from manydrawer.packing import packed


def row(count, first=1):
    return [card(number) for number in range(first, first + count)]


class ByHand(unittest.TestCase):
    def test_no_card(self):
        for width in (2, 3, 4, 5, 600):
            self.assertEqual(packed(width, []), ((), (), 0))

    def test_one_card(self):
        for width in (2, 3, 4, 5, 600):
            self.assertEqual(packed(width, [(-7, "")]), (((-7, ""),), (), 1))

    def test_just_one_level(self):
        for width in (2, 3, 4, 5, 8, 600):
            self.assertEqual(packed(width, row(width)), drawer(range(1, width + 1)))

    def test_one_card_more_than_one_level_holds(self):
        self.assertEqual(packed(2, row(3)), drawer([2], drawer([1]), drawer([3])))
        self.assertEqual(packed(3, row(4)), drawer([3], drawer([1, 2]), drawer([4])))
        self.assertEqual(packed(4, row(5)), drawer([3], drawer([1, 2]), drawer([4, 5])))
        self.assertEqual(packed(5, row(6)), drawer([4], drawer([1, 2, 3]), drawer([5, 6])))

    def test_width_two_on_two_levels(self):
        self.assertEqual(packed(2, row(4)), drawer([3], drawer([1, 2]), drawer([4])))
        self.assertEqual(packed(2, row(5)), drawer([3], drawer([1, 2]), drawer([4, 5])))
        self.assertEqual(packed(2, row(6)), drawer([3, 5], drawer([1, 2]), drawer([4]), drawer([6])))
        self.assertEqual(packed(2, row(7)), drawer([3, 6], drawer([1, 2]), drawer([4, 5]), drawer([7])))

    def test_just_two_levels(self):
        self.assertEqual(packed(2, row(8)), drawer([3, 6], drawer([1, 2]), drawer([4, 5]), drawer([7, 8])))
        below = [drawer([1, 2, 3]), drawer([5, 6, 7]), drawer([9, 10, 11]), drawer([13, 14, 15])]
        self.assertEqual(packed(3, row(15)), drawer([4, 8, 12], *below))

    def test_one_card_more_than_two_levels_hold(self):
        left = drawer([3], drawer([1, 2]), drawer([4]))
        right = drawer([8], drawer([6, 7]), drawer([9]))
        self.assertEqual(packed(2, row(9)), drawer([5], left, right))
        left = drawer([3, 6], drawer([1, 2]), drawer([4, 5]), drawer([7, 8]))
        right = drawer([13], drawer([10, 11, 12]), drawer([14, 15, 16]))
        self.assertEqual(packed(3, row(16)), drawer([9], left, right))

    def test_three_levels_with_unequal_drawers(self):
        first = drawer([3, 5], drawer([1, 2]), drawer([4]), drawer([6]))
        second = drawer([10, 12], drawer([8, 9]), drawer([11]), drawer([13]))
        third = drawer([17], drawer([15, 16]), drawer([18, 19]))
        self.assertEqual(packed(2, row(19)), drawer([7, 14], first, second, third))

    def test_as_plain_tuples(self):
        cards = [(-HUGE, ""), (-1, " "), (0, "a b"), (HUGE, "")]
        left = (((-HUGE, ""), (-1, " ")), (), 2)
        self.assertEqual(packed(3, cards), (((0, "a b"),), (left, (((HUGE, ""),), (), 1)), 4))

    def test_only_the_order_of_the_numbers_counts(self):
        cards = [(-HUGE, "z"), (-2, "a"), (5, ""), (6, "z"), (HUGE, "a")]
        top = packed(2, cards)
        self.assertEqual(top, ((cards[2],), ((tuple(cards[:2]), (), 2), (tuple(cards[3:]), (), 2)), 5))

    def test_a_width_beyond_all_cards(self):
        for width in (10 ** 5, HUGE, 10 ** 5000):
            self.assertEqual(packed(width, row(7)), drawer(range(1, 8)))


class ByTheWordsOfPoint13(unittest.TestCase):
    def check(self, width, cards):
        before = list(cards)
        top = packed(width, cards)
        self.assertEqual(cards, before)
        self.assertEqual(cards_in(top), cards)
        self.assertEqual(faults(width, top), [])
        self.assertEqual(level_faults(width, top), [])
        levels = 1
        while len(cards) + 1 > (width + 1) ** levels:
            levels = levels + 1
        self.assertEqual(depths(top)[0], levels)
        self.check_drawer(width, top, levels)

    def check_drawer(self, width, top, levels):
        if levels == 1:
            self.assertEqual(top[1], ())
            return
        count = 1
        while count * (width + 1) ** (levels - 1) < top[2] + 1:
            count = count + 1
        self.assertEqual(len(top[1]), count)
        self.assertEqual(len(top[0]), count - 1)
        counts = [len(cards_in(under)) for under in top[1]]
        self.assertEqual(counts, sorted(counts, reverse=True))
        self.assertLessEqual(counts[0] - counts[-1], 1)
        for under in top[1]:
            self.check_drawer(width, under, levels - 1)

    def test_every_count_of_the_small_widths(self):
        for width in (2, 3, 4, 5):
            for count in range(140):
                self.check(width, row(count, -70))

    def test_counts_on_the_edges_of_each_level(self):
        for width in (2, 3, 4, 5, 6, 7, 8, 23, 24):
            for levels in range(1, 7):
                count = (width + 1) ** levels - 1
                if count <= 700:
                    self.check(width, row(count - 1))
                    self.check(width, row(count))
                    self.check(width, row(count + 1))

    def test_six_hundred(self):
        for width in (2, 3, 4, 5, 10, 11, 23, 24, 25, 299, 300, 599, 600, 601):
            for count in (598, 599, 600, 601):
                self.check(width, row(count, -300))

    def test_hundred_figures(self):
        for width in (2, 3, 6):
            self.check(width, [((k - 50) * (HUGE // 50), "" if k % 2 else " k! ") for k in range(101)])


class BehindThePacking(unittest.TestCase):
    def test_the_cabinet_can_be_asked(self):
        for width in (2, 3, 4, 7):
            cards = [(2 * k - 100, "" if k % 5 == 0 else str(k)) for k in range(100)]
            top = packed(width, cards)
            for rank, (number, note) in enumerate(cards):
                self.assertEqual(card_at(top, rank), (number, note))
                self.assertEqual(note_of(top, number), note)
                self.assertIsNone(note_of(top, number + 1))
                self.assertEqual(rank_of(top, number), rank)
                self.assertEqual(rank_of(top, number + 1), rank + 1)
                self.assertEqual(between(top, number, None), cards[rank:])
                self.assertEqual(between(top, None, number - 1), cards[:rank])

    def test_the_cabinet_can_be_changed(self):
        for width in (2, 3, 4, 7):
            for count in (26, 27, 63, 64):
                top = packed(width, [(2 * k, "") for k in range(count)])
                for k in range(count):
                    top = put_in(width, top, 2 * (k * 5 % count) + 1, "odd")
                    self.assertEqual(faults(width, top), [])
                for k in range(2 * count):
                    top = take_out(width, top, k)
                    self.assertEqual(faults(width, top), [])
                self.assertEqual(top, EMPTY)


class Refused(unittest.TestCase):
    def test_no_width(self):
        for width in (1, 0, -1, -HUGE):
            for cards in ([], row(1), row(9)):
                with self.assertRaises(NoWidth):
                    packed(width, cards)

    def test_no_width_ahead_of_not_rising(self):
        for width in (1, 0, -1):
            for cards in ([card(1), card(1)], [card(2), card(1)], row(5) + row(5)):
                with self.assertRaises(NoWidth):
                    packed(width, cards)

    def test_the_same_number(self):
        for cards in ([card(1), card(1)], [(1, "a"), (1, "b")], row(5) + row(1, 5), row(1) + row(9)):
            with self.assertRaises(NotRising):
                packed(2, cards)

    def test_a_lesser_number(self):
        pairs = ([card(2), card(1)], [card(0), card(-1)])
        for cards in pairs + (row(5) + row(1), [card(9)] + row(3), row(3) + [card(-HUGE)]):
            with self.assertRaises(NotRising):
                packed(3, cards)

    def test_at_each_place(self):
        for width in (2, 5, 600):
            for place in range(1, 30):
                for less in (1, 2, 100):
                    cards = row(30)
                    cards[place] = (cards[place][0] - less, "")
                    before = list(cards)
                    with self.assertRaises(NotRising):
                        packed(width, cards)
                    self.assertEqual(cards, before)

    def test_the_last_of_six_hundred(self):
        for number in (-300, 298, 297):
            with self.assertRaises(NotRising):
                packed(600, row(599, -300) + [card(number)])
        self.assertEqual(packed(600, row(599, -300) + [card(299)]), drawer(range(-300, 300)))

    def test_hundred_figures_that_differ_in_the_last(self):
        with self.assertRaises(NotRising):
            packed(2, [(HUGE, ""), (HUGE - 1, "")])
        self.assertEqual(packed(2, [(HUGE - 1, ""), (HUGE, "")])[2], 2)

    def test_both_are_drawer_errors(self):
        with self.assertRaises(DrawerError):
            packed(1, [])
        with self.assertRaises(DrawerError):
            packed(2, [card(1), card(1)])

    def test_more_figures_than_can_be_shown(self):
        with self.assertRaises(NotRising):
            packed(2, [(10 ** 5000, ""), (10 ** 5000, "")])
        with self.assertRaises(NoWidth):
            packed(-10 ** 5000, [])


if __name__ == "__main__":
    unittest.main()
