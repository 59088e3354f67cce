import unittest

from helper import EMPTY, HUGE, ONE_LEVEL, SAMPLE_TOPS, THREE_LEVELS, TWO_LEVELS, cards_in, drawer, marks_around
from manydrawer.asking import rank_of


class RankOf(unittest.TestCase):
    def test_a_cabinet_without_cards(self):
        for number in (0, 1, -1, HUGE, -HUGE):
            self.assertEqual(rank_of(EMPTY, number), 0)

    def test_one_level(self):
        expected = [
            (-HUGE - 1, 0), (-HUGE, 0), (-HUGE + 1, 1), (-4, 1), (-3, 1), (-2, 2), (0, 2), (1, 3), (8, 3), (9, 4),
            (HUGE, 4),
        ]
        for number, rank in expected:
            self.assertEqual(rank_of(ONE_LEVEL, number), rank, number)

    def test_the_number_of_a_card_in_the_top_drawer(self):
        self.assertEqual(rank_of(TWO_LEVELS, -5), 2)
        self.assertEqual(rank_of(TWO_LEVELS, 20), 6)
        self.assertEqual(rank_of(THREE_LEVELS, 0), 7)

    def test_the_number_of_a_card_in_a_drawer_between(self):
        self.assertEqual([rank_of(THREE_LEVELS, number) for number in (-40, -20, 30)], [2, 4, 9])

    def test_the_number_of_a_card_in_a_bottom_drawer(self):
        self.assertEqual([rank_of(TWO_LEVELS, number) for number in (-HUGE, 0, 7, 19, 21, HUGE)], [0, 3, 4, 5, 7, 8])
        self.assertEqual([rank_of(THREE_LEVELS, number) for number in (-HUGE, -30, 10, HUGE + 2)], [1, 3, 8, 11])

    def test_no_card_needs_to_have_the_number(self):
        numbers = (-HUGE - 9, -8, -4, 6, 8, 22, HUGE + 1)
        self.assertEqual([rank_of(TWO_LEVELS, number) for number in numbers], [0, 2, 3, 4, 5, 8, 9])
        numbers = (-HUGE - 2, -41, -39, -1, 1, 29, 31, HUGE + 1, HUGE + 3)
        self.assertEqual([rank_of(THREE_LEVELS, number) for number in numbers], [0, 2, 3, 7, 8, 9, 10, 11, 12])

    def test_every_number_around_the_cards(self):
        for top in SAMPLE_TOPS:
            for number in marks_around(top):
                smaller = len([each for each in cards_in(top) if each[0] < number])
                answer = rank_of(top, number)
                self.assertEqual(answer, smaller, number)
                self.assertIs(type(answer), int)

    def test_six_hundred_cards_in_one_drawer(self):
        top = drawer(range(0, 1200, 2))
        for number in range(-1, 1201):
            self.assertEqual(rank_of(top, number), min(600, max(0, (number + 1) // 2)))


if __name__ == "__main__":
    unittest.main()
