import unittest

from manydrawer.errors import DrawerError, NoCard, NoWidth, NotRising


class Errors(unittest.TestCase):
    def test_any_refusal_is_a_value_error(self):
        self.assertEqual(DrawerError.__bases__, (ValueError,))

    def test_each_refusal_stands_right_under_drawer_error(self):
        for refusal in (NoCard, NoWidth, NotRising):
            self.assertEqual(refusal.__bases__, (DrawerError,))

    def test_names(self):
        names = [each.__name__ for each in (DrawerError, NoCard, NoWidth, NotRising)]
        self.assertEqual(names, ["DrawerError", "NoCard", "NoWidth", "NotRising"])

    def test_one_refusal_is_not_taken_for_another(self):
        for refusal in (NoCard, NoWidth, NotRising):
            for other in (NoCard, NoWidth, NotRising):
                self.assertEqual(issubclass(refusal, other), refusal is other)

    def test_taken_as_any_refusal(self):
        for refusal in (NoCard, NoWidth, NotRising):
            with self.assertRaises(DrawerError):
                raise refusal("refused")


if __name__ == "__main__":
    unittest.main()
