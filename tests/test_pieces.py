import unittest

from cutjoin.pieces import begins, ends, is_end, is_name, is_piece, other_end, place_of
from samples import Pair, Text, Whole, odd_things


class Names(unittest.TestCase):
    def test_one_to_eight_small_letters(self):
        for name in ("a", "z", "m", "ab", "zz", "abcdefgh", "zzzzzzzz", "aaaaaaa"):
            with self.subTest(name=name):
                self.assertIs(is_name(name), True)

    def test_no_letter_and_nine(self):
        for name in ("", "abcdefghi", "a" * 100, "a" * 10 ** 6):
            self.assertIs(is_name(name), False)

    def test_other_signs(self):
        for name in ("A", "aB", "Z", "`", "{", "a1", "1", "a b", " ", " a", "a ", "a\n", "\n", "a-b", "_",
                     "-", "\x00", "a\x00", "\u00e4", "\u00df", "\u0430", "\u00aa", "\uff41", "\U0001d41a", "\ud800"):
            with self.subTest(name=ascii(name)):
                self.assertIs(is_name(name), False)

    def test_other_kinds(self):
        for thing in odd_things() + [["a"], ("a", 1), Text("a"), str]:
            self.assertIs(is_name(thing), False)


class Pieces(unittest.TestCase):
    def test_a_name_and_a_way(self):
        for piece in (("a", 1), ("a", -1), ("abcdefgh", 1), ("zz", -1)):
            with self.subTest(piece=piece):
                self.assertIs(is_piece(piece), True)

    def test_other_ways(self):
        for way in (0, 2, -2, True, False, 1.0, -1.0, "1", None, 1 + 0j, (1,), 10 ** 30, Whole(1), Whole(-1)):
            with self.subTest(way=way):
                self.assertIs(is_piece(("a", way)), False)

    def test_other_names(self):
        for name in ("", "abcdefghi", "A", 1, None, True, b"a", ("a",), ["a"], Text("a")):
            with self.subTest(name=name):
                self.assertIs(is_piece((name, 1)), False)

    def test_other_kinds_and_lengths(self):
        for thing in odd_things() + [(), ("a",), (1, "a"), ("a", 1, 1), ["a", 1], "ab", Pair("a", 1)]:
            self.assertIs(is_piece(thing), False)


class Ends(unittest.TestCase):
    def test_the_tail_and_the_head(self):
        for end in (("a", 0), ("a", 1), ("abcdefgh", 0), ("zz", 1)):
            with self.subTest(end=end):
                self.assertIs(is_end(end), True)

    def test_other_sides(self):
        for side in (-1, 2, True, False, 0.0, 1.0, "0", None, 0j, (0,), 10 ** 30, Whole(0), Whole(1)):
            with self.subTest(side=side):
                self.assertIs(is_end(("a", side)), False)

    def test_other_names(self):
        for name in ("", "abcdefghi", "A", 0, None, False, b"a", ("a",), ["a"], Text("a")):
            with self.subTest(name=name):
                self.assertIs(is_end((name, 0)), False)

    def test_nothing_is_no_end(self):
        self.assertIs(is_end(()), False)

    def test_other_kinds_and_lengths(self):
        for thing in odd_things() + [[], ["a", 0], (0, "a"), ("a", 0, 0), "a", Pair("a", 0)]:
            self.assertIs(is_end(thing), False)

    def test_by_way_1_from_the_tail_to_the_head(self):
        self.assertEqual(begins(("a", 1)), ("a", 0))
        self.assertEqual(ends(("a", 1)), ("a", 1))

    def test_by_way_minus_1_from_the_head_to_the_tail(self):
        self.assertEqual(begins(("abcdefgh", -1)), ("abcdefgh", 1))
        self.assertEqual(ends(("abcdefgh", -1)), ("abcdefgh", 0))

    def test_the_other_end(self):
        self.assertEqual(other_end(("ab", 0)), ("ab", 1))
        self.assertEqual(other_end(("ab", 1)), ("ab", 0))

    def test_what_is_told_are_ends(self):
        for piece in (("a", 1), ("a", -1)):
            for end in (begins(piece), ends(piece), other_end(begins(piece)), other_end(ends(piece))):
                self.assertIs(is_end(end), True)


class Places(unittest.TestCase):
    def test_the_lesser_end_first(self):
        for one, other in ((("a", 0), ("b", 0)), (("a", 1), ("b", 0)), (("a", 0), ("a", 1)),
                           (("a", 1), ("ab", 0)), (("abc", 1), ("b", 0))):
            with self.subTest(one=one, other=other):
                self.assertEqual(place_of(one, other), (one, other))
                self.assertEqual(place_of(other, one), (one, other))

    def test_nothing_is_less_than_each_end(self):
        self.assertEqual(place_of((), ("a", 0)), ((), ("a", 0)))
        self.assertEqual(place_of(("a", 1), ()), ((), ("a", 1)))


if __name__ == "__main__":
    unittest.main()
