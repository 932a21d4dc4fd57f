import unittest

from cutjoin.errors import Unlike
from cutjoin.places import place_at
from cutjoin.telling import read
from cutjoin.walks import apart, parts
from cutjoin.yards import names_of
from samples import mixed, small_yards, yards_of

A0, A1, B0, B1, C0, C1 = [(name, side) for name in "abc" for side in (0, 1)]


def next_to(yard, end):
    """What stands beside an end in its place."""
    one, other = place_at(yard, end)
    return other if end == one else one


class Parts(unittest.TestCase):
    def told(self, one, other, *wanted):
        self.assertEqual(parts(read(one), read(other)), list(wanted))

    def test_no_piece(self):
        self.told("", "")

    def test_a_string_of_one_end(self):
        self.told("a", "a", ("string", (A0,)), ("string", (A1,)))

    def test_a_round_of_two_ends(self):
        self.told("(a)", "(a)", ("round", (A0, A1)))
        self.told("(a b)", "(b a)", ("round", (A0, B1)), ("round", (A1, B0)))

    def test_a_string_of_two_ends(self):
        self.told("(a)", "a", ("string", (A0, A1)))
        self.told("a", "(a)", ("string", (A0, A1)))
        self.told("-b -a", "a, b", ("string", (A0,)), ("string", (A1, B0)), ("string", (B1,)))

    def test_a_string_of_three_ends(self):
        # from a0 by the other yard to b0, from there by the one to a1
        self.told("a b", "-a b", ("string", (A0, B0, A1)), ("string", (B1,)))
        self.told("-a b", "a b", ("string", (A0, B0, A1)), ("string", (B1,)))
        self.told("b a", "b -a", ("string", (A0, B1, A1)), ("string", (B0,)))

    def test_strings_of_four_ends_and_more(self):
        self.told("(a b)", "a, (b)", ("string", (A0, B1, B0, A1)))
        self.told("(a b)", "(a), b", ("string", (B0, A1, A0, B1)))
        self.told("(a), (b)", "a b", ("string", (A0, A1, B0, B1)))
        self.told("a b c", "(a), b c", ("round", (B1, C0)), ("string", (A0, A1, B0)),
                  ("string", (C1,)))
        self.told("(a), (b), c", "c, a b", ("string", (A0, A1, B0, B1)), ("string", (C0,)), ("string", (C1,)))
        self.told("(a), (b), (c)", "a b c", ("string", (A0, A1, B0, B1, C0, C1)))
        self.told("(a), (b), c", "b a c", ("string", (B0, B1, A0, A1, C0)), ("string", (C1,)))

    def test_a_round_goes_first_by_a_place_of_the_one_yard(self):
        self.told("(a b)", "(a), (b)", ("round", (A0, B1, B0, A1)))
        self.told("(a), (b)", "(a b)", ("round", (A0, A1, B0, B1)))
        self.told("(a b)", "(a -b)", ("round", (A0, B1, A1, B0)))
        self.told("(a -b)", "(a b)", ("round", (A0, B0, A1, B1)))
        self.told("(a b c)", "(a), (b), (c)", ("round", (A0, C1, C0, B1, B0, A1)))

    def test_rounds_come_before_strings(self):
        self.told("a, (b)", "a, (b)", ("round", (B0, B1)), ("string", (A0,)), ("string", (A1,)))

    def are_as_told(self, one, other):
        """Each part goes along by turns, from where it is to begin, and each end is in one part."""
        told = parts(one, other)
        self.assertEqual(told, sorted(told))
        met = []
        for kind, ends in told:
            self.assertIs(type(ends), tuple)
            met.extend(ends)
            if kind == "round":
                first, then = one, other
                self.assertEqual(ends[0], min(ends))
                self.assertEqual(next_to(other, ends[0]), ends[-1])
            else:
                self.assertEqual(kind, "string")
                first, then = (one, other) if next_to(other, ends[0]) == () else (other, one)
                self.assertEqual(next_to(then, ends[0]), ())
                self.assertLessEqual(ends, ends[::-1])
                last = (first, then)[(len(ends) + 1) % 2]
                self.assertEqual(next_to(last, ends[-1]), ())
            for here, there in zip(ends, ends[1:]):
                self.assertEqual(next_to(first, here), there)
                first, then = then, first
        self.assertEqual(sorted(met), [(name, side) for name in names_of(one) for side in (0, 1)])

    def test_all_small_yards(self):
        for some in ("", "a", "ab"):
            for one in yards_of(some):
                for other in yards_of(some):
                    self.are_as_told(one, other)
        yards = yards_of("abc")
        for one in yards[::3]:
            for other in yards:
                self.are_as_told(one, other)

    def test_sixty_pieces(self):
        for free in (0, 2, 40, 120):
            for other_free in (0, 4, 60, 120):
                self.are_as_told(mixed(60, 37, free), mixed(60, 71, other_free))

    def test_the_parts_are_made_of_texts_and_plain_numbers(self):
        for kind, ends in parts(read("a b, (c)"), read("(b a), c")):
            self.assertIs(type(kind), str)
            for end in ends:
                self.assertEqual([type(part) for part in end], [str, int])


class Apart(unittest.TestCase):
    def far(self, one, other, wanted):
        with self.subTest(one=one, other=other):
            told = apart(read(one), read(other))
            self.assertEqual(told, wanted)
            self.assertIs(type(told), int)

    def test_alike_yards_and_no_others_are_0_apart(self):
        for some in ("", "a", "ab", "abc"):
            yards = yards_of(some)
            for one in yards:
                for other in yards:
                    self.assertEqual(apart(one, other) == 0, one == other)

    def test_one_apart(self):
        self.far("a", "(a)", 1)
        self.far("a b", "a, b", 1)
        self.far("a b", "-a b", 1)
        self.far("(a b)", "(a), (b)", 1)
        self.far("(a b)", "(a -b)", 1)
        self.far("a b c", "a -b c", 1)
        self.far("a b c", "a c, (b)", 1)

    def test_farther_apart(self):
        self.far("(a b)", "a, b", 2)
        self.far("(a), (b)", "a b", 2)
        self.far("(a b c)", "a, b, c", 3)
        self.far("(a b c)", "(a), (b), (c)", 2)
        self.far("(a), (b), (c)", "a b c", 3)
        self.far("a b c d", "d c b a", 4)
        self.far("a b c", "c b a", 2)

    def test_as_far_with_the_yards_exchanged(self):
        yards = yards_of("abc")
        for one in yards:
            for other in yards:
                self.assertEqual(apart(one, other), apart(other, one))

    def test_as_the_parts_tell(self):
        for some in ("a", "ab", "abc"):
            for one in yards_of(some)[::2]:
                for other in yards_of(some):
                    told = parts(one, other)
                    rounds = len([kind for kind, _ in told if kind == "round"])
                    odd = len([kind for kind, ends in told if kind == "string" and len(ends) % 2 == 1])
                    self.assertEqual(2 * apart(one, other), 2 * (len(some) - rounds) - odd)

    def test_sixty_pieces(self):
        ring, row = mixed(60, 37, 0), mixed(60, 1, 120)
        self.assertEqual(apart(ring, row), 60)
        self.assertEqual(apart(ring, ring), 0)
        self.assertEqual(apart(row, row), 0)


class UnlikeYards(unittest.TestCase):
    def test_names_that_are_not_the_same(self):
        for one, other in (("", "a"), ("a", "b"), ("a", "a b"), ("a b", "a, c"), ("(a)", "(a), (b)"), ("a b", "c d"),
                           ("a b c", "a b d"), ("a", "aa"), ("ab", "a b"), ("a", "")):
            for ask in (parts, apart):
                with self.subTest(one=one, other=other, ask=ask):
                    with self.assertRaises(Unlike):
                        ask(read(one), read(other))
                    with self.assertRaises(Unlike):
                        ask(read(other), read(one))

    def test_all_small_yards(self):
        for one in small_yards()[:13]:
            for other in small_yards()[:13]:
                if names_of(one) != names_of(other):
                    for ask in (parts, apart):
                        with self.assertRaises(Unlike):
                            ask(one, other)

    def test_the_same_names_are_enough(self):
        self.assertEqual(apart(read("-a, (b)"), read("(-b), a")), 0)


if __name__ == "__main__":
    unittest.main()
