import unittest

from helper import EMPTY, HUGE, ONE_LEVEL, SAMPLE_TOPS, THREE_LEVELS, TWO_LEVELS, cards_in, drawer, marks_around
from manydrawer.asking import note_of


class NoteOf(unittest.TestCase):
    def test_a_cabinet_without_cards(self):
        for number in (0, 1, -1, HUGE, -HUGE):
            self.assertIsNone(note_of(EMPTY, number))

    def test_one_level(self):
        expected = [(-HUGE, "lowest of all"), (-3, ""), (0, " "), (8, "a, b; c: #1!")]
        for number, note in expected:
            self.assertEqual(note_of(ONE_LEVEL, number), note)

    def test_below_the_first_beyond_the_last_and_between_two(self):
        for number in (-HUGE - 1, -HUGE + 1, -4, -2, -1, 1, 3, 7, 9, HUGE):
            self.assertIsNone(note_of(ONE_LEVEL, number))

    def test_in_the_top_drawer_of_two_levels(self):
        self.assertEqual(note_of(TWO_LEVELS, -5), "")
        self.assertEqual(note_of(TWO_LEVELS, 20), "two\nrows")

    def test_in_a_bottom_drawer_of_two_levels(self):
        expected = [(-HUGE, "- ~ -"), (-9, ""), (0, "nought"), (7, "  "), (19, ""), (21, "'"), (HUGE, "None")]
        for number, note in expected:
            self.assertEqual(note_of(TWO_LEVELS, number), note)

    def test_on_each_of_three_levels(self):
        expected = [(0, "top"), (-40, ""), (-20, "left"), (30, ""), (-HUGE, "x y"), (-10, ")"), (10, "\\"), (HUGE, "")]
        for number, note in expected:
            self.assertEqual(note_of(THREE_LEVELS, number), note)

    def test_the_empty_note_is_a_text(self):
        for top, number in ((ONE_LEVEL, -3), (TWO_LEVELS, -5), (TWO_LEVELS, 19), (THREE_LEVELS, HUGE)):
            self.assertIs(type(note_of(top, number)), str)

    def test_every_number_around_the_cards(self):
        for top in SAMPLE_TOPS:
            notes = dict(cards_in(top))
            for number in marks_around(top):
                self.assertEqual(note_of(top, number), notes.get(number), number)

    def test_six_hundred_cards_in_one_drawer(self):
        top = drawer(range(-300, 300))
        for number in range(-301, 301):
            note = "n" + str(number) if -300 <= number < 300 else None
            self.assertEqual(note_of(top, number), note)


if __name__ == "__main__":
    unittest.main()
