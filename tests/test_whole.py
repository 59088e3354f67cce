import inspect
import unittest

from helper import SAMPLES, faults, level_faults
from manydrawer import asking, changing, day, drawers, packing

INTERFACE = (
    (drawers.place_of, ["cards", "number"]),
    (drawers.levels_of, ["top"]),
    (changing.parted, ["width", "drawer"]),
    (changing.put_in, ["width", "top", "number", "note"]),
    (changing.mended, ["width", "drawer", "place"]),
    (changing.last_out, ["width", "drawer"]),
    (changing.take_out, ["width", "top", "number"]),
    (asking.note_of, ["top", "number"]),
    (asking.rank_of, ["top", "number"]),
    (asking.card_at, ["top", "rank"]),
    (asking.between, ["top", "low", "high"]),
    (packing.packed, ["width", "cards"]),
    (day.answers, ["width", "deeds"]),
    (day.tops, ["width", "deeds"]),
)


class Whole(unittest.TestCase):
    def test_names_and_arguments(self):
        for function, arguments in INTERFACE:
            self.assertEqual(list(inspect.signature(function).parameters), arguments, function.__name__)

    def test_the_samples_are_cabinets(self):
        for top, widths in SAMPLES:
            for width in widths:
                self.assertEqual(faults(width, top), [])
                self.assertEqual(level_faults(width, top), [])


if __name__ == "__main__":
    unittest.main()
