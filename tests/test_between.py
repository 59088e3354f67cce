import unittest

from helper import EMPTY, HUGE, ONE_LEVEL, SAMPLE_TOPS, THREE_LEVELS, TWO_LEVELS, card, cards_in, drawer, marks_around
from manydrawer.asking import between


def numbers_between(top, low, high):
    return [number for number, note in between(top, low, high)]


class Between(unittest.TestCase):
    def test_a_cabinet_without_cards(self):
        for low in (None, -HUGE, 0, HUGE):
            for high in (None, -HUGE, 0, HUGE):
                self.assertEqual(between(EMPTY, low, high), [])

    def test_marks_that_are_those_of_cards(self):
        self.assertEqual(between(ONE_LEVEL, -3, 0), [(-3, ""), (0, " ")])
        self.assertEqual(between(ONE_LEVEL, -HUGE, 8), list(ONE_LEVEL[0]))
        self.assertEqual(numbers_between(TWO_LEVELS, -5, 20), [-5, 0, 7, 19, 20])
        self.assertEqual(numbers_between(TWO_LEVELS, -9, 21), [-9, -5, 0, 7, 19, 20, 21])
        self.assertEqual(numbers_between(TWO_LEVELS, 0, 19), [0, 7, 19])
        self.assertEqual(numbers_between(THREE_LEVELS, -20, 30), [-20, -12, -10, 0, 10, 30])
        self.assertEqual(numbers_between(THREE_LEVELS, -HUGE, HUGE), [-HUGE, -40, -30, -20, -12, -10, 0, 10, 30, HUGE])

    def test_marks_between_cards(self):
        self.assertEqual(between(ONE_LEVEL, -4, 7), [(-3, ""), (0, " ")])
        self.assertEqual(numbers_between(TWO_LEVELS, -4, 18), [0, 7])
        self.assertEqual(numbers_between(TWO_LEVELS, -6, 22), [-5, 0, 7, 19, 20, 21])
        self.assertEqual(numbers_between(THREE_LEVELS, -31, 11), [-30, -20, -12, -10, 0, 10])
        self.assertEqual(numbers_between(THREE_LEVELS, -HUGE + 1, -39), [-40])

    def test_marks_with_no_card_between(self):
        self.assertEqual(between(ONE_LEVEL, 1, 7), [])
        self.assertEqual(between(TWO_LEVELS, -4, -1), [])
        self.assertEqual(between(THREE_LEVELS, 31, HUGE - 1), [])

    def test_marks_on_one_side_of_all_cards(self):
        for top in (ONE_LEVEL, TWO_LEVELS, THREE_LEVELS):
            self.assertEqual(between(top, -HUGE - 9, -HUGE - 2), [])
            self.assertEqual(between(top, HUGE + 3, HUGE + 9), [])
            self.assertEqual(between(top, None, -HUGE - 2), [])
            self.assertEqual(between(top, HUGE + 3, None), [])

    def test_both_marks_the_same(self):
        self.assertEqual(between(TWO_LEVELS, 20, 20), [(20, "two\nrows")])
        self.assertEqual(between(TWO_LEVELS, 7, 7), [(7, "  ")])
        self.assertEqual(between(THREE_LEVELS, -40, -40), [(-40, "")])
        self.assertEqual(between(THREE_LEVELS, 0, 0), [(0, "top")])
        self.assertEqual(between(THREE_LEVELS, 1, 1), [])

    def test_the_low_mark_greater_than_the_high_one(self):
        for top in SAMPLE_TOPS:
            marks = marks_around(top)
            for place, high in enumerate(marks):
                for low in marks[place + 1:]:
                    self.assertEqual(between(top, low, high), [], (low, high))

    def test_no_low_mark(self):
        self.assertEqual(numbers_between(TWO_LEVELS, None, 0), [-HUGE, -9, -5, 0])
        self.assertEqual(numbers_between(TWO_LEVELS, None, -5), [-HUGE, -9, -5])
        self.assertEqual(numbers_between(THREE_LEVELS, None, -35), [-HUGE - 1, -HUGE, -40])

    def test_no_high_mark(self):
        self.assertEqual(numbers_between(TWO_LEVELS, 19, None), [19, 20, 21, HUGE])
        self.assertEqual(numbers_between(TWO_LEVELS, 20, None), [20, 21, HUGE])
        self.assertEqual(numbers_between(THREE_LEVELS, 11, None), [30, HUGE, HUGE + 2])

    def test_no_mark_at_all(self):
        for top in SAMPLE_TOPS:
            self.assertEqual(between(top, None, None), cards_in(top))

    def test_nought_is_a_mark(self):
        self.assertEqual(numbers_between(ONE_LEVEL, 0, None), [0, 8])
        self.assertEqual(numbers_between(ONE_LEVEL, None, 0), [-HUGE, -3, 0])
        self.assertEqual(numbers_between(THREE_LEVELS, 0, None), [0, 10, 30, HUGE, HUGE + 2])

    def test_every_pair_of_marks(self):
        for top in SAMPLE_TOPS:
            row = cards_in(top)
            for low in [None] + marks_around(top):
                for high in [None] + marks_around(top):
                    expected = [each for each in row if low is None or each[0] >= low]
                    expected = [each for each in expected if high is None or each[0] <= high]
                    answer = between(top, low, high)
                    self.assertEqual(answer, expected, (low, high))
                    self.assertIs(type(answer), list)

    def test_each_answer_is_a_list_of_its_own(self):
        for top in (ONE_LEVEL, TWO_LEVELS):
            between(top, None, None).clear()
            self.assertEqual(between(top, None, None), cards_in(top))

    def test_six_hundred_cards_in_one_drawer(self):
        top = drawer(range(600))
        self.assertEqual(between(top, 100, 499), [card(number) for number in range(100, 500)])
        self.assertEqual(between(top, None, None), [card(number) for number in range(600)])


if __name__ == "__main__":
    unittest.main()
