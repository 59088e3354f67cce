import unittest

from helper import EMPTY, HUGE, ONE_LEVEL, SAMPLE_TOPS, THREE_LEVELS, TWO_LEVELS, card, cards_in, drawer
from manydrawer.asking import card_at, rank_of
from manydrawer.errors import DrawerError, NoCard


class CardAt(unittest.TestCase):
    def test_one_level(self):
        expected = [(-HUGE, "lowest of all"), (-3, ""), (0, " "), (8, "a, b; c: #1!")]
        self.assertEqual([card_at(ONE_LEVEL, rank) for rank in range(4)], expected)

    def test_the_first_and_the_last_rank(self):
        self.assertEqual(card_at(TWO_LEVELS, 0), (-HUGE, "- ~ -"))
        self.assertEqual(card_at(TWO_LEVELS, 8), (HUGE, "None"))
        self.assertEqual(card_at(THREE_LEVELS, 0), (-HUGE - 1, ""))
        self.assertEqual(card_at(THREE_LEVELS, 11), (HUGE + 2, "end"))

    def test_in_the_top_drawer(self):
        self.assertEqual(card_at(TWO_LEVELS, 2), (-5, ""))
        self.assertEqual(card_at(TWO_LEVELS, 6), (20, "two\nrows"))
        self.assertEqual(card_at(THREE_LEVELS, 7), (0, "top"))

    def test_in_a_drawer_between(self):
        self.assertEqual([card_at(THREE_LEVELS, rank) for rank in (2, 4, 9)], [(-40, ""), (-20, "left"), (30, "")])

    def test_on_both_sides_of_a_card_above(self):
        self.assertEqual(card_at(TWO_LEVELS, 1), (-9, ""))
        self.assertEqual(card_at(TWO_LEVELS, 3), (0, "nought"))
        self.assertEqual(card_at(TWO_LEVELS, 5), (19, ""))
        self.assertEqual(card_at(TWO_LEVELS, 7), (21, "'"))
        self.assertEqual(card_at(THREE_LEVELS, 6), (-10, ")"))
        self.assertEqual(card_at(THREE_LEVELS, 8), (10, "\\"))

    def test_every_rank(self):
        for top in SAMPLE_TOPS:
            row = cards_in(top)
            self.assertEqual([card_at(top, rank) for rank in range(len(row))], row)
            for rank in range(len(row)):
                self.assertEqual(rank_of(top, card_at(top, rank)[0]), rank)

    def test_six_hundred_cards_in_one_drawer(self):
        top = drawer(range(-300, 300))
        for rank in range(600):
            self.assertEqual(card_at(top, rank), card(rank - 300))


class Refused(unittest.TestCase):
    def test_behind_the_last_rank(self):
        for top in SAMPLE_TOPS:
            for more in (0, 1, 2, 100, HUGE):
                with self.assertRaises(NoCard):
                    card_at(top, len(cards_in(top)) + more)

    def test_below_nought(self):
        for top in SAMPLE_TOPS:
            for rank in (-1, -2, -len(cards_in(top)) - 1, -100, -HUGE):
                with self.assertRaises(NoCard):
                    card_at(top, rank)

    def test_a_cabinet_without_cards(self):
        for rank in (-1, 0, 1):
            with self.assertRaises(NoCard):
                card_at(EMPTY, rank)

    def test_it_is_a_drawer_error(self):
        with self.assertRaises(DrawerError):
            card_at(ONE_LEVEL, 4)

    def test_a_rank_of_more_figures_than_can_be_shown(self):
        for rank in (10 ** 5000, -10 ** 5000):
            with self.assertRaises(NoCard):
                card_at(TWO_LEVELS, rank)


if __name__ == "__main__":
    unittest.main()
