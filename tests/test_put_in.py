import itertools
import unittest

from helper import EMPTY, HUGE, Model, card, cards_in, drawer, faults
from manydrawer.changing import put_in


class OneLevel(unittest.TestCase):
    def test_into_a_cabinet_without_cards(self):
        for width in (2, 3, 4, 7, 600, HUGE):
            self.assertEqual(put_in(width, EMPTY, -5, ""), (((-5, ""),), (), 1))
        self.assertEqual(EMPTY, ((), (), 0))

    def test_below_among_and_beyond_the_cards(self):
        handed = drawer([10, 20])
        self.assertEqual(put_in(3, handed, 5, "n5"), drawer([5, 10, 20]))
        self.assertEqual(put_in(3, handed, 15, "n15"), drawer([10, 15, 20]))
        self.assertEqual(put_in(3, handed, 25, "n25"), drawer([10, 20, 25]))
        self.assertEqual(handed, drawer([10, 20]))

    def test_hundred_figures(self):
        first = put_in(4, EMPTY, HUGE, "high")
        second = put_in(4, first, -HUGE, "low")
        third = put_in(4, second, HUGE - 1, "")
        self.assertEqual(third, (((-HUGE, "low"), (HUGE - 1, ""), (HUGE, "high")), (), 3))

    def test_a_number_that_is_there_gets_the_note(self):
        self.assertEqual(put_in(2, drawer([1, 2]), 1, ""), (((1, ""), (2, "n2")), (), 2))
        self.assertEqual(put_in(2, drawer([1, 2]), 2, "new"), (((1, "n1"), (2, "new")), (), 2))
        self.assertEqual(put_in(2, drawer([1, 2]), 2, "n2"), drawer([1, 2]))

    def test_a_drawer_may_be_full(self):
        for width in (2, 3, 4, 5):
            handed = drawer(range(width - 1))
            self.assertEqual(put_in(width, handed, 90, "n90"), drawer(list(range(width - 1)) + [90]))

    def test_the_top_drawer_is_parted(self):
        self.assertEqual(put_in(2, drawer([1, 2]), 3, "n3"), drawer([2], drawer([1]), drawer([3])))
        self.assertEqual(put_in(2, drawer([1, 2]), 0, "n0"), drawer([1], drawer([0]), drawer([2])))
        self.assertEqual(put_in(2, drawer([1, 3]), 2, "n2"), drawer([2], drawer([1]), drawer([3])))
        self.assertEqual(put_in(3, drawer([1, 2, 3]), 4, "n4"), drawer([2], drawer([1]), drawer([3, 4])))
        self.assertEqual(put_in(3, drawer([1, 2, 3]), -4, "n-4"), drawer([1], drawer([-4]), drawer([2, 3])))
        self.assertEqual(put_in(4, drawer([1, 2, 4, 5]), 3, "n3"), drawer([3], drawer([1, 2]), drawer([4, 5])))
        self.assertEqual(put_in(5, drawer([1, 2, 3, 4, 5]), 6, "n6"), drawer([3], drawer([1, 2]), drawer([4, 5, 6])))

    def test_six_hundred_cards(self):
        answer = put_in(600, drawer(range(600)), 600, "n600")
        self.assertEqual(answer, drawer([300], drawer(range(300)), drawer(range(301, 601))))
        self.assertEqual(put_in(601, drawer(range(600)), 600, "n600"), drawer(range(601)))


class MoreLevels(unittest.TestCase):
    def test_into_a_bottom_drawer_with_room(self):
        handed = drawer([10, 20], drawer([1]), drawer([11]), drawer([21]))
        self.assertEqual(put_in(2, handed, 0, "n0"), drawer([10, 20], drawer([0, 1]), drawer([11]), drawer([21])))
        self.assertEqual(put_in(2, handed, 19, "n19"), drawer([10, 20], drawer([1]), drawer([11, 19]), drawer([21])))
        self.assertEqual(put_in(2, handed, 99, "n99"), drawer([10, 20], drawer([1]), drawer([11]), drawer([21, 99])))
        self.assertEqual(handed, drawer([10, 20], drawer([1]), drawer([11]), drawer([21])))

    def test_as_plain_tuples(self):
        handed = (((0, "o"),), ((((-1, ""),), (), 1), (((1, "e"),), (), 1)), 3)
        answer = (((0, "o"),), ((((-2, "z"), (-1, "")), (), 2), (((1, "e"),), (), 1)), 4)
        self.assertEqual(put_in(2, handed, -2, "z"), answer)

    def test_a_bottom_drawer_is_parted(self):
        handed = drawer([2], drawer([1]), drawer([3, 4]))
        self.assertEqual(put_in(2, handed, 5, "n5"), drawer([2, 4], drawer([1]), drawer([3]), drawer([5])))
        handed = drawer([20], drawer([1, 2, 3]), drawer([21]))
        self.assertEqual(put_in(3, handed, 0, "n0"), drawer([1, 20], drawer([0]), drawer([2, 3]), drawer([21])))

    def test_the_top_drawer_is_parted_behind_one_under_it(self):
        handed = drawer([2, 4], drawer([1]), drawer([3]), drawer([5, 6]))
        left = drawer([2], drawer([1]), drawer([3]))
        right = drawer([6], drawer([5]), drawer([7]))
        self.assertEqual(put_in(2, handed, 7, "n7"), drawer([4], left, right))

    def test_the_top_drawer_of_an_odd_width_is_parted(self):
        handed = drawer([10, 20, 30], drawer([1]), drawer([11, 12, 13]), drawer([21]), drawer([31, 32]))
        left = drawer([10], drawer([1]), drawer([11]))
        right = drawer([20, 30], drawer([13, 14]), drawer([21]), drawer([31, 32]))
        self.assertEqual(put_in(3, handed, 14, "n14"), drawer([12], left, right))

    def test_the_middle_drawer_is_parted_and_the_top_has_room(self):
        left = drawer([4], drawer([2]), drawer([6]))
        handed = drawer([8], left, drawer([12, 16], drawer([10]), drawer([14]), drawer([18, 20])))
        middle = drawer([12], drawer([10]), drawer([14]))
        right = drawer([20], drawer([18]), drawer([22]))
        self.assertEqual(put_in(2, handed, 22, "n22"), drawer([8, 16], left, middle, right))

    def test_three_drawers_on_the_way_are_parted(self):
        first = drawer([4], drawer([2]), drawer([6]))
        second = drawer([12], drawer([10]), drawer([14]))
        handed = drawer([8, 16], first, second, drawer([20, 24], drawer([18]), drawer([22]), drawer([26, 28])))
        third = drawer([20], drawer([18]), drawer([22]))
        fourth = drawer([28], drawer([26]), drawer([30]))
        answer = drawer([16], drawer([8], first, second), drawer([24], third, fourth))
        self.assertEqual(put_in(2, handed, 30, "n30"), answer)

    def test_three_levels_with_room_at_the_bottom(self):
        right = drawer([HUGE], drawer([5]), drawer([HUGE + 2]))
        handed = drawer([0], drawer([-8], drawer([-9]), drawer([-4])), right)
        answer = drawer([0], drawer([-8], drawer([-9]), drawer([-6, -4])), right)
        self.assertEqual(put_in(3, handed, -6, "n-6"), answer)


class ThereAlready(unittest.TestCase):
    def setUp(self):
        left = drawer([4, 8], drawer([2, 3]), drawer([6, 7]), drawer([9, 10]))
        right = drawer([16, 20], drawer([14, 15]), drawer([18, 19]), drawer([22, 23]))
        self.top = drawer([12], left, right)

    def test_in_the_top_drawer(self):
        answer = put_in(2, self.top, 12, "")
        self.assertEqual(answer, (((12, ""),), self.top[1], self.top[2]))

    def test_in_a_drawer_between(self):
        answer = put_in(2, self.top, 20, "new")
        right = ((card(16), (20, "new")), self.top[1][1][1], 8)
        self.assertEqual(answer, (self.top[0], (self.top[1][0], right), 17))

    def test_in_a_full_bottom_drawer(self):
        answer = put_in(2, self.top, 7, "new")
        below = self.top[1][0][1]
        left = (self.top[1][0][0], (below[0], ((card(6), (7, "new")), (), 2), below[2]), 8)
        self.assertEqual(answer, (self.top[0], (left, self.top[1][1]), 17))

    def test_each_number_wherever_it_lies(self):
        before = cards_in(self.top)
        for place, (number, note) in enumerate(before):
            answer = put_in(2, self.top, number, "new")
            self.assertEqual(cards_in(answer), before[:place] + [(number, "new")] + before[place + 1:])
            self.assertEqual(put_in(2, answer, number, note), self.top)
        self.assertEqual(cards_in(self.top), before)


class AgainstTheModel(unittest.TestCase):
    def test_every_order_of_seven_cards(self):
        for width in (2, 3):
            for order in itertools.permutations(range(7)):
                top = EMPTY
                model = Model(width)
                for number in order:
                    top = put_in(width, top, number, "n" + str(number))
                    model.put(number, "n" + str(number))
                self.assertEqual(top, model.as_drawer(), (width, order))
                self.assertEqual(faults(width, top), [])
                self.assertEqual(cards_in(top), [card(number) for number in range(7)])


if __name__ == "__main__":
    unittest.main()
