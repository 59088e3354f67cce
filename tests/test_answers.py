import unittest

from helper import HUGE
from manydrawer.day import answers
from manydrawer.errors import DrawerError, NoWidth

WIDTHS = (2, 3, 4, 5, 600)


class Answers(unittest.TestCase):
    def check(self, pairs):
        deeds = [deed for deed, answer in pairs]
        for width in WIDTHS:
            before = list(deeds)
            given = answers(width, deeds)
            self.assertIs(type(given), list)
            self.assertEqual(given, [answer for deed, answer in pairs], width)
            self.assertEqual(deeds, before)

    def test_a_day_without_deeds(self):
        self.check([])

    def test_put(self):
        self.check([
            (("put", 3, "three"), None),
            (("put", -HUGE, "a b, c!"), None),
            (("put", 3, "again"), "three"),
            (("put", 3, "again"), "again"),
            (("put", -HUGE, ""), "a b, c!"),
        ])

    def test_the_empty_note_put_in_again(self):
        self.check([
            (("put", 5, ""), None),
            (("put", 5, "x"), ""),
            (("put", 5, ""), "x"),
            (("put", 5, ""), ""),
            (("find", 5), ""),
            (("take", 5), ""),
            (("put", 5, "y"), None),
        ])

    def test_take(self):
        self.check([
            (("put", 1, "one"), None),
            (("put", 2, ""), None),
            (("take", 1), "one"),
            (("take", 2), ""),
            (("find", 1), None),
            (("nth", 0), None),
            (("rank", HUGE), 0),
        ])

    def test_take_answers_with_the_newest_note(self):
        self.check([(("put", 1, "old"), None), (("put", 1, "new"), "old"), (("take", 1), "new")])

    def test_take_refused(self):
        self.check([
            (("take", 1), None),
            (("put", 1, "one"), None),
            (("take", 2), None),
            (("take", -1), None),
            (("take", 0), None),
            (("between", None, None), [(1, "one")]),
            (("take", 1), "one"),
            (("take", 1), None),
            (("between", None, None), []),
        ])

    def test_find(self):
        self.check([
            (("find", 0), None),
            (("put", 0, "nought"), None),
            (("put", HUGE, " "), None),
            (("find", 0), "nought"),
            (("find", HUGE), " "),
            (("find", 1), None),
            (("find", -1), None),
            (("find", HUGE + 1), None),
        ])

    def test_rank(self):
        self.check([
            (("rank", 0), 0),
            (("put", 10, ""), None),
            (("put", -10, ""), None),
            (("put", 0, ""), None),
            (("rank", -11), 0),
            (("rank", -10), 0),
            (("rank", -9), 1),
            (("rank", 0), 1),
            (("rank", 1), 2),
            (("rank", 10), 2),
            (("rank", 11), 3),
            (("rank", HUGE), 3),
        ])

    def test_nth(self):
        self.check([
            (("nth", 0), None),
            (("nth", -1), None),
            (("put", 10, "b"), None),
            (("put", -10, ""), None),
            (("put", 20, "c"), None),
            (("nth", 0), (-10, "")),
            (("nth", 1), (10, "b")),
            (("nth", 2), (20, "c")),
            (("nth", 3), None),
            (("nth", -1), None),
            (("nth", HUGE), None),
            (("nth", -HUGE), None),
            (("between", None, None), [(-10, ""), (10, "b"), (20, "c")]),
        ])

    def test_between(self):
        self.check([
            (("between", None, None), []),
            (("put", 3, "c"), None),
            (("put", 1, "a"), None),
            (("put", 4, "d"), None),
            (("put", -2, ""), None),
            (("between", 1, 3), [(1, "a"), (3, "c")]),
            (("between", 2, 2), []),
            (("between", 3, 3), [(3, "c")]),
            (("between", 3, 1), []),
            (("between", None, 1), [(-2, ""), (1, "a")]),
            (("between", 2, None), [(3, "c"), (4, "d")]),
            (("between", 0, None), [(1, "a"), (3, "c"), (4, "d")]),
            (("between", None, 0), [(-2, "")]),
            (("between", None, None), [(-2, ""), (1, "a"), (3, "c"), (4, "d")]),
        ])

    def test_asking_changes_nothing(self):
        asking = [
            (("find", 2), "b"), (("find", 9), None), (("rank", 2), 1), (("rank", 9), 3), (("nth", 2), (3, "c")),
            (("nth", 3), None), (("nth", -1), None), (("between", 2, 9), [(2, "b"), (3, "c")]),
            (("between", 9, 2), []), (("take", 9), None),
        ]
        putting = [(("put", 1, "a"), None), (("put", 2, "b"), None), (("put", 3, "c"), None)]
        self.check(putting + asking + asking)

    def test_each_list_is_one_of_its_own(self):
        deeds = [("put", 1, "a"), ("between", None, None), ("between", None, None)]
        given = answers(2, deeds)
        given[1].clear()
        self.assertEqual(given[2], [(1, "a")])
        self.assertEqual(answers(2, deeds)[1], [(1, "a")])

    def test_each_day_begins_without_cards(self):
        for width in WIDTHS:
            answers(width, [("put", 1, "a")])
            self.assertEqual(answers(width, [("find", 1), ("nth", 0), ("between", None, None)]), [None, None, []])


class Refused(unittest.TestCase):
    def test_no_width(self):
        for width in (1, 0, -1, -HUGE):
            for deeds in ([], [("put", 1, "a")], [("nth", 0)], [("put", 1, "a"), ("take", 1)]):
                with self.assertRaises(NoWidth):
                    answers(width, deeds)

    def test_it_is_a_drawer_error(self):
        with self.assertRaises(DrawerError):
            answers(1, [])


if __name__ == "__main__":
    unittest.main()
