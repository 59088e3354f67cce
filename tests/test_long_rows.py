import unittest

from helper import EMPTY, HUGE, Model, cards_in, faults, level_faults
from manydrawer.changing import put_in, take_out
from manydrawer.errors import NoCard

WIDTHS = (2, 3, 4, 5, 6, 7, 16, 33)


class LongRows(unittest.TestCase):
    """Behind every deed: the rules, the bounds of point 5, the cards in order, and the model's very drawers."""

    def check(self, width, top, model, kept):
        self.assertEqual(faults(width, top), [])
        self.assertEqual(cards_in(top), sorted(kept.items()))
        self.assertEqual(level_faults(width, top), [])
        self.assertEqual(top, model.as_drawer())

    def run_row(self, width, deeds):
        top = EMPTY
        model = Model(width)
        kept = {}
        for number, note in deeds:
            if note is not None:
                top = put_in(width, top, number, note)
                model.put(number, note)
                kept[number] = note
            elif number in kept:
                top = take_out(width, top, number)
                model.take(number)
                kept.pop(number)
            else:
                self.assertRaises(NoCard, take_out, width, top, number)
            self.check(width, top, model, kept)
        return top

    def test_in_and_out_rising(self):
        for width in WIDTHS:
            deeds = [(k, "") for k in range(-90, 90)] + [(k, None) for k in range(-90, 90)]
            self.assertEqual(self.run_row(width, deeds), EMPTY)

    def test_in_and_out_falling(self):
        for width in WIDTHS:
            deeds = [(-k, str(k)) for k in range(180)] + [(-k, None) for k in range(180)]
            self.assertEqual(self.run_row(width, deeds), EMPTY)

    def test_in_by_one_order_and_out_by_another(self):
        for width in WIDTHS:
            deeds = [(k * 71 % 257, "a") for k in range(257)] + [(k * 101 % 257, None) for k in range(257)]
            self.assertEqual(self.run_row(width, deeds), EMPTY)

    def test_in_and_out_by_turns(self):
        for width in WIDTHS:
            deeds = []
            for k in range(600):
                number = k * k * 7 % 211 - 105
                deeds.append((number, str(k)) if k % 3 else (number * 2 % 97, None))
            self.run_row(width, deeds)

    def test_hundred_figures(self):
        for width in (2, 3, 8):
            numbers = [(k * 31 % 101 - 50) * (HUGE // 50) for k in range(101)]
            deeds = [(number, "h") for number in numbers] + [(number + 1, None) for number in numbers]
            deeds = deeds + [(number, None) for number in sorted(numbers, key=abs)]
            self.assertEqual(self.run_row(width, deeds), EMPTY)

    def test_six_hundred_cards_at_the_smallest_width(self):
        top = EMPTY
        for k in range(600):
            top = put_in(2, top, k * 263 % 601, "n")
        self.assertEqual(faults(2, top), [])
        self.assertEqual(len(cards_in(top)), 600)
        for k in range(600):
            top = take_out(2, top, k * 263 % 601)
            self.assertEqual(top[2], 599 - k)
        self.assertEqual(top, EMPTY)


if __name__ == "__main__":
    unittest.main()
