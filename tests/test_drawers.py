import unittest

from helper import EMPTY, HUGE, card, drawer
from manydrawer.drawers import levels_of, place_of


class PlaceOf(unittest.TestCase):
    def test_no_cards(self):
        self.assertEqual(place_of((), 5), 0)

    def test_below_among_on_and_beyond_the_cards(self):
        cards = ((-4, "a"), (0, ""), (7, "b"))
        expected = [(-9, 0), (-5, 0), (-4, 0), (-3, 1), (-1, 1), (0, 1), (1, 2), (6, 2), (7, 2), (8, 3), (99, 3)]
        for number, place in expected:
            self.assertEqual(place_of(cards, number), place, number)

    def test_one_card(self):
        self.assertEqual([place_of(((3, "x"),), number) for number in (2, 3, 4)], [0, 0, 1])

    def test_notes_play_no_part(self):
        self.assertEqual(place_of(((1, "z"), (2, "a"), (3, "")), 3), 2)

    def test_hundred_figures(self):
        cards = ((-HUGE, "low"), (HUGE - 1, ""), (HUGE, "high"))
        numbers = (-HUGE - 1, -HUGE, -HUGE + 1, HUGE - 1, HUGE, HUGE + 1)
        self.assertEqual([place_of(cards, number) for number in numbers], [0, 0, 1, 1, 2, 3])

    def test_six_hundred_cards(self):
        cards = tuple([(2 * k - 600, "") for k in range(600)])
        for number in range(-602, 602):
            smaller = len([each for each in cards if each[0] < number])
            self.assertEqual(place_of(cards, number), smaller)

    def test_the_answer_is_a_whole_number(self):
        for number in (0, 1, 2):
            self.assertIs(type(place_of((card(1),), number)), int)

    def test_the_cards_stay(self):
        cards = (card(1), card(2))
        place_of(cards, 2)
        self.assertEqual(cards, ((1, "n1"), (2, "n2")))


class LevelsOf(unittest.TestCase):
    def test_no_cards(self):
        self.assertEqual(levels_of(EMPTY), 1)

    def test_one_level(self):
        self.assertEqual(levels_of(drawer([1, 2, 3])), 1)

    def test_two_levels(self):
        self.assertEqual(levels_of(drawer([2], drawer([1]), drawer([3]))), 2)
        self.assertEqual(levels_of(drawer([2, 4], drawer([1]), drawer([3]), drawer([5, 6]))), 2)

    def test_three_levels(self):
        left = drawer([-2], drawer([-3]), drawer([-1]))
        right = drawer([2, 5], drawer([1]), drawer([3, 4]), drawer([HUGE]))
        self.assertEqual(levels_of(drawer([0], left, right)), 3)

    def test_one_level_more_than_the_drawers_under_it(self):
        for levels in range(1, 9):
            self.assertEqual(levels_of(one_in_each(0, 2 ** levels - 1)), levels)

    def test_six_hundred_drawers_under_one(self):
        numbers = [2 * k + 1 for k in range(599)]
        below = [drawer([2 * k]) for k in range(600)]
        self.assertEqual(levels_of(drawer(numbers, *below)), 2)


def one_in_each(first, count):
    """A cabinet with one card in every drawer."""
    if count == 1:
        return drawer([first])
    half = count // 2
    return drawer([first + half], one_in_each(first, half), one_in_each(first + half + 1, half))


if __name__ == "__main__":
    unittest.main()
