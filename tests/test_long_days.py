import unittest

from helper import EMPTY, HUGE, Model, Notebook, cards_in, depths, faults, level_faults
from manydrawer.day import answers, tops

WIDTHS = (2, 3, 4, 5, 6, 7, 12)
NOTES = ("", " ", "a note", "1, 2; 3!", "None", "row\nrow", "'\"\\", "~")


class Rolls:
    """Numbers in a mixed order that is the same on every run."""

    def __init__(self, seed):
        self.state = seed

    def below(self, bound):
        self.state = (self.state * 6364136223846793005 + 1442695040888963407) % 2 ** 64
        return (self.state >> 33) % bound


def mixed_deeds(seed, count, numbers, puts):
    """Deeds of all six kinds, refused ones among them; of sixteen, `puts` put a card in."""
    rolls = Rolls(seed)
    deeds = []
    for k in range(count):
        number = numbers[rolls.below(len(numbers))]
        roll = rolls.below(16)
        if roll < puts:
            deeds.append(("put", number, NOTES[rolls.below(len(NOTES))]))
        elif roll < 12:
            deeds.append(("take", number))
        elif roll == 12:
            deeds.append(("find", number))
        elif roll == 13:
            deeds.append(("rank", number))
        elif roll == 14:
            deeds.append(("nth", rolls.below(len(numbers)) - 3))
        else:
            marks = [None] + numbers
            deeds.append(("between", marks[rolls.below(len(marks))], marks[rolls.below(len(marks))]))
    return deeds


class LongDays(unittest.TestCase):
    def check(self, width, deeds):
        before = list(deeds)
        given = answers(width, deeds)
        drawers = tops(width, deeds)
        self.assertEqual(deeds, before)
        self.assertEqual((len(given), len(drawers)), (len(deeds), len(deeds)))
        notebook = Notebook()
        model = Model(width)
        for deed, answer, top in zip(deeds, given, drawers):
            self.assertEqual(answer, notebook.answer(deed), deed)
            if deed[0] == "put":
                model.put(deed[1], deed[2])
            if deed[0] == "take":
                model.take(deed[1])
            self.assertEqual(faults(width, top), [])
            self.assertEqual(level_faults(width, top), [])
            self.assertEqual(cards_in(top), notebook.cards())
            self.assertEqual(top, model.as_drawer())
        return [depths(top)[0] for top in drawers]

    def test_days_of_all_six_kinds(self):
        for width in WIDTHS:
            for seed in range(4):
                self.check(width, mixed_deeds(seed, 300, list(range(-40, 40)), 7))

    def test_growing_to_three_levels_and_shrinking_again(self):
        numbers = [7 * k - 500 for k in range(150)]
        for width in (2, 3, 4, 5, 6):
            deeds = mixed_deeds(width, 350, numbers, 12)
            deeds = deeds + mixed_deeds(width + 100, 250, numbers, 1)
            deeds = deeds + [("take", number) for number in numbers]
            levels = self.check(width, deeds)
            self.assertGreaterEqual(max(levels), 3)
            self.assertEqual(levels[-1], 1)
            self.assertEqual(tops(width, deeds)[-1], EMPTY)

    def test_one_number_in_turns_with_its_neighbours(self):
        for width in WIDTHS:
            self.check(width, mixed_deeds(9, 300, [-1, 0, 1], 6))

    def test_hundred_figures(self):
        numbers = [(k - 25) * (HUGE // 25) + k % 3 for k in range(51)]
        for width in (2, 3, 5):
            self.check(width, mixed_deeds(width, 300, numbers, 9))

    def test_six_hundred_puts(self):
        for width in (2, 3, 600):
            deeds = [("put", k * 257 % 601 - 300, NOTES[k % len(NOTES)]) for k in range(600)]
            given = tops(width, deeds)
            self.assertEqual(answers(width, deeds), [None] * 600)
            self.assertEqual([top[2] for top in given], list(range(1, 601)))
            self.assertEqual(faults(width, given[-1]), [])
            self.assertEqual(cards_in(given[-1]), sorted([(number, note) for kind, number, note in deeds]))


if __name__ == "__main__":
    unittest.main()
