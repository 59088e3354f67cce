import unittest

from helper import HUGE, card, cards_in, drawer, faults
from manydrawer.changing import parted


class Parted(unittest.TestCase):
    def test_as_plain_tuples(self):
        handed = (((-1, ""), (0, "b"), (HUGE, "c")), (), 3)
        self.assertEqual(parted(2, handed), ((((-1, ""),), (), 1), (0, "b"), (((HUGE, "c"),), (), 1)))
        self.assertEqual(handed, (((-1, ""), (0, "b"), (HUGE, "c")), (), 3))

    def test_bottom_drawers(self):
        self.assertEqual(parted(2, drawer([1, 2, 3])), (drawer([1]), card(2), drawer([3])))
        self.assertEqual(parted(3, drawer([1, 2, 3, 4])), (drawer([1]), card(2), drawer([3, 4])))
        self.assertEqual(parted(4, drawer([1, 2, 3, 4, 5])), (drawer([1, 2]), card(3), drawer([4, 5])))
        self.assertEqual(parted(5, drawer([1, 2, 3, 4, 5, 6])), (drawer([1, 2]), card(3), drawer([4, 5, 6])))

    def test_even_width_with_drawers_under(self):
        handed = drawer([10, 20, 30], drawer([1, 2]), drawer([11]), drawer([21]), drawer([31, 32]))
        left = drawer([10], drawer([1, 2]), drawer([11]))
        right = drawer([30], drawer([21]), drawer([31, 32]))
        self.assertEqual(parted(2, handed), (left, card(20), right))
        self.assertEqual((left[2], right[2]), (4, 4))

    def test_odd_width_with_drawers_under(self):
        below = (drawer([1, 2, 3]), drawer([11]), drawer([21, 22]), drawer([31, 32, 33]), drawer([41]))
        answer = parted(3, drawer([10, 20, 30, 40], *below))
        self.assertEqual(answer[0], ((card(10),), below[:2], 5))
        self.assertEqual(answer[1], card(20))
        self.assertEqual(answer[2], ((card(30), card(40)), below[2:], 8))

    def test_two_more_levels_under(self):
        middle = [drawer([10 * k + 5], drawer([10 * k + 4]), drawer([10 * k + 6, 10 * k + 7])) for k in range(4)]
        answer = parted(2, drawer([10, 20, 30], *middle))
        self.assertEqual(answer[0], drawer([10], middle[0], middle[1]))
        self.assertEqual(answer[1], card(20))
        self.assertEqual(answer[2], drawer([30], middle[2], middle[3]))
        self.assertEqual((answer[0][2], answer[2][2]), (9, 9))

    def test_every_width_up_to_six_hundred(self):
        for width in list(range(2, 40)) + [599, 600]:
            handed = drawer(range(-3, width - 2))
            left, up, right = parted(width, handed)
            self.assertEqual(list(left[0]) + [up] + list(right[0]), list(handed[0]))
            self.assertEqual((len(left[0]), len(right[0])), (width // 2, width - width // 2))
            self.assertEqual(faults(width, left, width // 2) + faults(width, right, width // 2), [])

    def test_every_width_with_drawers_under(self):
        for width in range(2, 20):
            half = width // 2
            below = [drawer(range(100 * k + 1, 100 * k + 1 + half + k % 2)) for k in range(width + 2)]
            handed = drawer([100 * k for k in range(1, width + 2)], *below)
            answer = parted(width, handed)
            self.assertIs(type(answer), tuple)
            left, up, right = answer
            self.assertEqual(left[1] + right[1], handed[1])
            self.assertEqual(len(left[1]), half + 1)
            self.assertEqual(cards_in(left) + [up] + cards_in(right), cards_in(handed))
            self.assertEqual(faults(width, left, half) + faults(width, right, half), [])


if __name__ == "__main__":
    unittest.main()
