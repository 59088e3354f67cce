import unittest

from helper import EMPTY, HUGE, Model, card, cards_in, drawer, faults
from manydrawer.changing import last_out, put_in


class LastOut(unittest.TestCase):
    def test_a_bottom_drawer(self):
        for width in (2, 3, 4, 5):
            self.assertEqual(last_out(width, drawer([1, 2])), (card(2), drawer([1])))

    def test_the_last_card_of_a_bottom_drawer(self):
        for width in (2, 3, 6):
            self.assertEqual(last_out(width, drawer([7])), (card(7), EMPTY))

    def test_as_plain_tuples(self):
        handed = (((-HUGE, "a"), (0, ""), (HUGE, "")), (), 3)
        self.assertEqual(last_out(3, handed), ((HUGE, ""), (((-HUGE, "a"), (0, "")), (), 2)))
        self.assertEqual(handed, (((-HUGE, "a"), (0, ""), (HUGE, "")), (), 3))

    def test_the_last_bottom_drawer_has_cards_to_spare(self):
        handed = drawer([2], drawer([1]), drawer([3, 4]))
        self.assertEqual(last_out(2, handed), (card(4), drawer([2], drawer([1]), drawer([3]))))
        self.assertEqual(handed, drawer([2], drawer([1]), drawer([3, 4])))

    def test_its_neighbour_lends(self):
        handed = drawer([2, 5], drawer([1]), drawer([3, 4]), drawer([6]))
        self.assertEqual(last_out(2, handed), (card(6), drawer([2, 4], drawer([1]), drawer([3]), drawer([5]))))

    def test_it_is_joined(self):
        handed = drawer([2, 4], drawer([1]), drawer([3]), drawer([5]))
        self.assertEqual(last_out(3, handed), (card(5), drawer([2], drawer([1]), drawer([3, 4]))))

    def test_the_drawer_itself_is_left_without_a_card(self):
        for width in (2, 3):
            answer = last_out(width, drawer([2], drawer([1]), drawer([3])))
            self.assertEqual(answer, (card(3), drawer([], drawer([1, 2]))))

    def test_the_drawer_itself_is_not_mended(self):
        handed = drawer([10, 20], drawer([1, 2]), drawer([11, 12]), drawer([21, 22]))
        self.assertEqual(last_out(4, handed), (card(22), drawer([10], drawer([1, 2]), drawer([11, 12, 20, 21]))))

    def test_three_levels_mended_twice(self):
        left = drawer([4], drawer([2]), drawer([6]))
        handed = drawer([8], left, drawer([12], drawer([10]), drawer([14])))
        answer = drawer([], drawer([4, 8], drawer([2]), drawer([6]), drawer([10, 12])))
        self.assertEqual(last_out(2, handed), (card(14), answer))

    def test_three_levels_where_the_middle_one_lends(self):
        left = drawer([4, 8], drawer([2]), drawer([6]), drawer([9]))
        handed = drawer([12], left, drawer([16], drawer([14]), drawer([18])))
        right = drawer([12], drawer([9]), drawer([14, 16]))
        self.assertEqual(last_out(3, handed), (card(18), drawer([8], drawer([4], drawer([2]), drawer([6])), right)))

    def test_six_hundred_cards(self):
        self.assertEqual(last_out(600, drawer(range(600))), (card(599), drawer(range(599))))

    def test_over_a_long_row(self):
        for width in (2, 3, 4, 5, 8):
            top = EMPTY
            model = Model(width)
            for k in range(211):
                number = k * 67 % 211 - 100
                top = put_in(width, top, number, "n" + str(number))
                model.put(number, "n" + str(number))
            while cards_in(top):
                self.check(width, top)
                last = cards_in(top)[-1][0]
                top = last_out(width, top)[1]
                if not top[0] and top[1]:
                    top = top[1][0]
                model.take(last)
                self.assertEqual(top, model.as_drawer())

    def check(self, width, handed):
        answer = last_out(width, handed)
        self.assertIs(type(answer), tuple)
        row = cards_in(handed)
        self.assertEqual(answer[0], row[-1])
        self.assertEqual(cards_in(answer[1]), row[:-1])
        self.assertIn(len(handed[0]) - len(answer[1][0]), (0, 1))
        if answer[1][0]:
            self.assertEqual(faults(width, answer[1]), [])
        else:
            self.assertEqual(answer[1][2], len(row) - 1)
            for under in answer[1][1]:
                self.assertEqual(faults(width, under, width // 2), [])


if __name__ == "__main__":
    unittest.main()
