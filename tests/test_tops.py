import unittest

from helper import EMPTY, HUGE, drawer
from manydrawer.day import tops
from manydrawer.errors import DrawerError, NoWidth

ASKING = [
    ("find", 2), ("find", 99), ("rank", 2), ("rank", 99), ("nth", 0), ("nth", 99), ("nth", -1),
    ("between", None, None), ("between", 1, 2), ("between", 2, 1),
]


def put(number):
    return ("put", number, "n" + str(number))


class Tops(unittest.TestCase):
    def check(self, width, pairs):
        deeds = [deed for deed, top in pairs]
        before = list(deeds)
        given = tops(width, deeds)
        self.assertIs(type(given), list)
        self.assertEqual(given, [top for deed, top in pairs])
        self.assertEqual(deeds, before)

    def test_a_day_without_deeds(self):
        for width in (2, 3, 4, 600):
            self.assertEqual(tops(width, []), [])

    def test_as_plain_tuples(self):
        self.check(2, [
            (("put", HUGE, ""), (((HUGE, ""),), (), 1)),
            (("put", -HUGE, "low"), (((-HUGE, "low"), (HUGE, "")), (), 2)),
            (("put", HUGE, "x y"), (((-HUGE, "low"), (HUGE, "x y")), (), 2)),
            (("put", 0, ""), (((0, ""),), ((((-HUGE, "low"),), (), 1), (((HUGE, "x y"),), (), 1)), 3)),
            (("take", 0), (((-HUGE, "low"), (HUGE, "x y")), (), 2)),
            (("take", HUGE), (((-HUGE, "low"),), (), 1)),
            (("take", -HUGE), ((), (), 0)),
        ])

    def test_width_two_up_to_three_levels_and_back(self):
        left = drawer([2], drawer([1]), drawer([3]))
        self.check(2, [
            (put(1), drawer([1])),
            (put(2), drawer([1, 2])),
            (put(3), drawer([2], drawer([1]), drawer([3]))),
            (put(4), drawer([2], drawer([1]), drawer([3, 4]))),
            (put(5), drawer([2, 4], drawer([1]), drawer([3]), drawer([5]))),
            (put(6), drawer([2, 4], drawer([1]), drawer([3]), drawer([5, 6]))),
            (put(7), drawer([4], left, drawer([6], drawer([5]), drawer([7])))),
            (("take", 4), drawer([3, 6], drawer([1, 2]), drawer([5]), drawer([7]))),
            (("take", 7), drawer([3], drawer([1, 2]), drawer([5, 6]))),
            (("take", 6), drawer([3], drawer([1, 2]), drawer([5]))),
            (("take", 5), drawer([2], drawer([1]), drawer([3]))),
            (("take", 1), drawer([2, 3])),
            (("take", 2), drawer([3])),
            (("take", 3), EMPTY),
        ])

    def test_width_three(self):
        self.check(3, [
            (put(4), drawer([4])),
            (put(1), drawer([1, 4])),
            (put(3), drawer([1, 3, 4])),
            (put(2), drawer([2], drawer([1]), drawer([3, 4]))),
            (put(5), drawer([2], drawer([1]), drawer([3, 4, 5]))),
            (put(6), drawer([2, 4], drawer([1]), drawer([3]), drawer([5, 6]))),
            (("take", 1), drawer([4], drawer([2, 3]), drawer([5, 6]))),
            (("take", 4), drawer([3], drawer([2]), drawer([5, 6]))),
            (("take", 2), drawer([5], drawer([3]), drawer([6]))),
        ])

    def test_a_number_put_in_twice(self):
        self.check(2, [
            (("put", 1, ""), (((1, ""),), (), 1)),
            (("put", 1, "a"), (((1, "a"),), (), 1)),
            (("put", 1, ""), (((1, ""),), (), 1)),
        ])

    def test_deeds_that_change_nothing(self):
        full = drawer([2], drawer([1]), drawer([3]))
        putting = [(put(1), drawer([1])), (put(2), drawer([1, 2])), (put(3), full)]
        refused = [("take", 0), ("take", 4), ("take", -2), ("take", HUGE)]
        self.check(2, putting + [(deed, full) for deed in ASKING + refused])

    def test_refused_deeds_in_a_cabinet_without_cards(self):
        for width in (2, 3, 600):
            self.check(width, [(deed, EMPTY) for deed in ASKING + [("take", 0), ("take", 1)]])

    def test_the_day_goes_on_behind_a_refused_deed(self):
        self.check(2, [
            (("take", 1), EMPTY),
            (put(1), drawer([1])),
            (("nth", 1), drawer([1])),
            (put(2), drawer([1, 2])),
            (("take", 3), drawer([1, 2])),
            (("take", 1), drawer([2])),
            (("take", 1), drawer([2])),
        ])

    def test_each_day_begins_without_cards(self):
        tops(2, [put(1)])
        self.assertEqual(tops(2, [put(2)]), [drawer([2])])


class Refused(unittest.TestCase):
    def test_no_width(self):
        for width in (1, 0, -1, -HUGE):
            for deeds in ([], [put(1)], [("nth", 0)], [put(1), ("take", 1)]):
                with self.assertRaises(NoWidth):
                    tops(width, deeds)

    def test_it_is_a_drawer_error(self):
        with self.assertRaises(DrawerError):
            tops(1, [])


if __name__ == "__main__":
    unittest.main()
