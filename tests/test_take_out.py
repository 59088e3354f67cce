import itertools
import unittest

from helper import EMPTY, HUGE, Model, card, cards_in, drawer, faults
from manydrawer.changing import put_in, take_out
from manydrawer.errors import NoCard


class OneLevel(unittest.TestCase):
    def test_first_middle_and_last_card(self):
        handed = drawer([1, 2, 3])
        self.assertEqual(take_out(3, handed, 1), drawer([2, 3]))
        self.assertEqual(take_out(3, handed, 2), drawer([1, 3]))
        self.assertEqual(take_out(3, handed, 3), drawer([1, 2]))
        self.assertEqual(handed, drawer([1, 2, 3]))

    def test_the_last_card_of_all(self):
        for width in (2, 3, 4, 600):
            self.assertEqual(take_out(width, drawer([-1]), -1), ((), (), 0))

    def test_the_top_drawer_may_have_fewer_cards_than_the_half(self):
        self.assertEqual(take_out(600, drawer([1, 2]), 2), drawer([1]))

    def test_as_plain_tuples(self):
        handed = (((-HUGE, ""), (HUGE, "x")), (), 2)
        self.assertEqual(take_out(2, handed, -HUGE), (((HUGE, "x"),), (), 1))

    def test_six_hundred_cards(self):
        self.assertEqual(take_out(600, drawer(range(600)), 0), drawer(range(1, 600)))


class Refused(unittest.TestCase):
    def test_a_cabinet_without_cards(self):
        for number in (0, -1, HUGE):
            with self.assertRaises(NoCard):
                take_out(2, EMPTY, number)

    def test_one_level(self):
        for number in (0, 2, 4, -HUGE, HUGE):
            with self.assertRaises(NoCard):
                take_out(2, drawer([1, 3]), number)

    def test_three_levels(self):
        left = drawer([4], drawer([2]), drawer([6]))
        handed = drawer([8], left, drawer([12], drawer([10]), drawer([14])))
        for number in list(range(-1, 17, 2)) + [0, 16, -2, -8, HUGE]:
            with self.assertRaises(NoCard):
                take_out(2, handed, number)
        self.assertEqual(handed, drawer([8], left, drawer([12], drawer([10]), drawer([14]))))

    def test_a_number_that_was_taken_out(self):
        top = take_out(2, drawer([2], drawer([1]), drawer([3])), 2)
        with self.assertRaises(NoCard):
            take_out(2, top, 2)

    def test_a_number_of_more_figures_than_can_be_shown(self):
        with self.assertRaises(NoCard):
            take_out(2, drawer([1]), 10 ** 5000)


class FromABottomDrawer(unittest.TestCase):
    def test_with_cards_to_spare(self):
        handed = drawer([10], drawer([1, 2]), drawer([11, 12]))
        self.assertEqual(take_out(2, handed, 1), drawer([10], drawer([2]), drawer([11, 12])))
        self.assertEqual(take_out(2, handed, 12), drawer([10], drawer([1, 2]), drawer([11])))

    def test_left_lends(self):
        handed = drawer([10, 20], drawer([1, 2]), drawer([11]), drawer([21, 22]))
        for width in (2, 3):
            answer = drawer([2, 20], drawer([1]), drawer([10]), drawer([21, 22]))
            self.assertEqual(take_out(width, handed, 11), answer)

    def test_right_lends(self):
        handed = drawer([10, 20], drawer([1]), drawer([11, 12]), drawer([21]))
        for width in (2, 3):
            answer = drawer([11, 20], drawer([10]), drawer([12]), drawer([21]))
            self.assertEqual(take_out(width, handed, 1), answer)

    def test_joined_with_left(self):
        handed = drawer([10, 20], drawer([1]), drawer([11]), drawer([21]))
        for width in (2, 3):
            self.assertEqual(take_out(width, handed, 11), drawer([20], drawer([1, 10]), drawer([21])))
            self.assertEqual(take_out(width, handed, 21), drawer([10], drawer([1]), drawer([11, 20])))

    def test_joined_with_right(self):
        handed = drawer([10, 20], drawer([1]), drawer([11]), drawer([21]))
        for width in (2, 3):
            self.assertEqual(take_out(width, handed, 1), drawer([20], drawer([10, 11]), drawer([21])))

    def test_greater_widths(self):
        handed = drawer([10], drawer([1, 2]), drawer([11, 12, 13]))
        for width in (4, 5):
            self.assertEqual(take_out(width, handed, 2), drawer([11], drawer([1, 10]), drawer([12, 13])))
        handed = drawer([10, 20], drawer([1, 2]), drawer([11, 12]), drawer([21, 22]))
        for width in (4, 5):
            self.assertEqual(take_out(width, handed, 21), drawer([10], drawer([1, 2]), drawer([11, 12, 20, 22])))


class FromAnotherDrawer(unittest.TestCase):
    def test_the_stand_in_comes_from_the_left(self):
        handed = drawer([10, 20], drawer([1, 2]), drawer([11, 12]), drawer([21, 22]))
        self.assertEqual(take_out(2, handed, 10), drawer([2, 20], drawer([1]), drawer([11, 12]), drawer([21, 22])))
        self.assertEqual(take_out(2, handed, 20), drawer([10, 12], drawer([1, 2]), drawer([11]), drawer([21, 22])))

    def test_the_stand_in_moves_down_where_the_right_one_lends(self):
        handed = drawer([10], drawer([1]), drawer([11, 12]))
        self.assertEqual(take_out(2, handed, 10), drawer([11], drawer([1]), drawer([12])))

    def test_the_stand_in_stays_where_the_left_one_lends(self):
        handed = drawer([10, 20], drawer([1, 2]), drawer([11]), drawer([21]))
        self.assertEqual(take_out(2, handed, 20), drawer([2, 11], drawer([1]), drawer([10]), drawer([21])))

    def test_joined(self):
        handed = drawer([10, 20], drawer([1]), drawer([11]), drawer([21]))
        self.assertEqual(take_out(2, handed, 10), drawer([20], drawer([1, 11]), drawer([21])))
        self.assertEqual(take_out(2, handed, 20), drawer([11], drawer([1, 10]), drawer([21])))

    def test_the_top_of_three_levels(self):
        right = drawer([12], drawer([10]), drawer([14]))
        handed = drawer([8], drawer([4], drawer([2]), drawer([6, 7])), right)
        self.assertEqual(take_out(2, handed, 8), drawer([7], drawer([4], drawer([2]), drawer([6])), right))

    def test_the_middle_of_three_levels(self):
        right = drawer([12], drawer([10]), drawer([14]))
        handed = drawer([8], drawer([4], drawer([2, 3]), drawer([6])), right)
        self.assertEqual(take_out(3, handed, 4), drawer([8], drawer([3], drawer([2]), drawer([6])), right))

    def test_the_top_of_three_levels_mended_on_the_way(self):
        right = drawer([12, 16], drawer([10]), drawer([14]), drawer([18]))
        handed = drawer([8], drawer([4], drawer([2]), drawer([6])), right)
        left = drawer([6], drawer([2, 4]), drawer([10]))
        self.assertEqual(take_out(2, handed, 8), drawer([12], left, drawer([16], drawer([14]), drawer([18]))))


class TheTopDrawerGoes(unittest.TestCase):
    def test_two_levels(self):
        handed = drawer([2], drawer([1]), drawer([3]))
        for width in (2, 3):
            self.assertEqual(take_out(width, handed, 1), drawer([2, 3]))
            self.assertEqual(take_out(width, handed, 2), drawer([1, 3]))
            self.assertEqual(take_out(width, handed, 3), drawer([1, 2]))

    def test_three_levels(self):
        left = drawer([4], drawer([2]), drawer([6]))
        handed = drawer([8], left, drawer([12], drawer([10]), drawer([14])))
        self.assertEqual(take_out(2, handed, 2), drawer([8, 12], drawer([4, 6]), drawer([10]), drawer([14])))
        self.assertEqual(take_out(2, handed, 14), drawer([4, 8], drawer([2]), drawer([6]), drawer([10, 12])))
        self.assertEqual(take_out(2, handed, 8), drawer([6, 12], drawer([2, 4]), drawer([10]), drawer([14])))

    def test_greater_width(self):
        handed = drawer([10], drawer([1, 2]), drawer([11, 12]))
        self.assertEqual(take_out(4, handed, 12), drawer([1, 2, 10, 11]))
        self.assertEqual(take_out(5, handed, 1), drawer([2, 10, 11, 12]))


class AgainstTheModel(unittest.TestCase):
    def test_each_card_out_of_each_of_many_cabinets(self):
        for width in (2, 3, 4, 5):
            for step in (1, 5, 7, 11):
                for count in range(1, 36):
                    numbers = [k * step % 37 for k in range(count)]
                    for number in range(-1, 38):
                        self.check(width, numbers, number)

    def check(self, width, numbers, number):
        top = EMPTY
        model = Model(width)
        for each in numbers:
            top = put_in(width, top, each, "n" + str(each))
            model.put(each, "n" + str(each))
        if number not in numbers:
            self.assertRaises(NoCard, take_out, width, top, number)
            return
        before = cards_in(top)
        answer = take_out(width, top, number)
        model.take(number)
        self.assertEqual(answer, model.as_drawer(), (width, numbers, number))
        self.assertEqual(faults(width, answer), [])
        self.assertEqual(cards_in(answer), [each for each in before if each[0] != number])
        self.assertEqual(cards_in(top), before)

    def test_every_order_of_taking_six_cards(self):
        for width in (2, 3):
            full = EMPTY
            for number in range(6):
                full = put_in(width, full, number, "n" + str(number))
            for order in itertools.permutations(range(6)):
                top = full
                left = [card(number) for number in range(6)]
                for number in order:
                    top = take_out(width, top, number)
                    left.remove(card(number))
                    self.assertEqual(faults(width, top), [], (width, order))
                    self.assertEqual(cards_in(top), left)
                self.assertEqual(top, EMPTY)


if __name__ == "__main__":
    unittest.main()
