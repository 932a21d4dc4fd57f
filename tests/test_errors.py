import unittest

from cutjoin.errors import BadDeed, BadPlaces, BadText, BadYard, JoinError, Unlike


class Errors(unittest.TestCase):
    def test_any_refusal_is_a_value_error(self):
        self.assertEqual(JoinError.__bases__, (ValueError,))

    def test_each_kind_stands_straight_under_it(self):
        for kind in (BadYard, BadPlaces, BadDeed, BadText, Unlike):
            with self.subTest(kind=kind):
                self.assertEqual(kind.__bases__, (JoinError,))

    def test_a_refusal_can_be_raised_with_words(self):
        for kind in (JoinError, BadYard, BadPlaces, BadDeed, BadText, Unlike):
            with self.subTest(kind=kind), self.assertRaisesRegex(kind, "why not"):
                raise kind("why not")


if __name__ == "__main__":
    unittest.main()
