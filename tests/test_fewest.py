import unittest

from cutjoin.deeds import all_deeds, done
from cutjoin.errors import Unlike
from cutjoin.fewest import deeds_to, is_between, nearer
from cutjoin.places import places_of, yard_by
from cutjoin.telling import read
from cutjoin.walks import apart
from samples import behind, mixed, pairs_of_places, yards_of

A0, A1, B0, B1 = [(name, side) for name in "ab" for side in (0, 1)]
NONE = ((), ())


def yards_one_deed_away(yard):
    """The yards behind all deeds on a yard, by a going through of all pairs of places."""
    places = places_of(yard)
    found = [behind(places, (one, other, way)) for one, other in pairs_of_places(places) for way in (0, 1)]
    return sorted({yard_by(after) for after in found if after != places})


def searched(some):
    """How many deeds lead from each yard of these names to each one, by a search by all deeds."""
    away = {yard: yards_one_deed_away(yard) for yard in yards_of(some)}
    many = {}
    for start in away:
        now, count = [start], 0
        while now:
            for yard in now:
                many[start, yard] = count
            now = sorted({after for yard in now for after in away[yard] if (start, after) not in many})
            count += 1
    return many


class Search(unittest.TestCase):
    def test_as_far_apart_as_a_search_by_all_deeds_needs(self):
        for some in ("", "a", "ab", "abc"):
            yards = yards_of(some)
            many = searched(some)
            self.assertEqual(len(many), len(yards) ** 2)
            for one in yards:
                for other in yards:
                    self.assertEqual(apart(one, other), many[one, other])

    def test_a_deed_makes_a_yard_at_most_one_farther_or_nearer(self):
        for some in ("a", "ab", "abc"):
            yards = yards_of(some)
            for one in yards:
                behind_it = [done(one, deed) for deed in all_deeds(one)]
                for other in yards[::5]:
                    steps = {apart(after, other) - apart(one, other) for after in behind_it}
                    self.assertLessEqual(steps, {-1, 0, 1})
                    self.assertEqual(-1 in steps, one != other)


class DeedsTo(unittest.TestCase):
    def lead(self, one, other):
        """As many as the yards are apart, each a deed on what stands then, and leading there."""
        deeds = deeds_to(one, other)
        self.assertIs(type(deeds), list)
        self.assertEqual(len(deeds), apart(one, other))
        stands = one
        for deed in deeds:
            self.assertIn(deed, all_deeds(stands))
            stands = done(stands, deed)
        self.assertEqual(stands, other)

    def test_alike_yards(self):
        self.assertEqual(deeds_to(read(""), read("")), [])
        self.assertEqual(deeds_to(read("a -b, (c)"), read("a -b, (c)")), [])

    def test_one_deed(self):
        self.assertEqual(deeds_to(read("a"), read("(a)")), [(((), A0), ((), A1), 0)])
        self.assertEqual(deeds_to(read("(a)"), read("a")), [(NONE, (A0, A1), 0)])
        self.assertEqual(deeds_to(read("a b"), read("a, b")), [(NONE, (A1, B0), 0)])
        self.assertEqual(deeds_to(read("a b"), read("-a b")), [(((), A0), (A1, B0), 0)])
        self.assertEqual(deeds_to(read("a, (b)"), read("a b")), [(((), A1), (B0, B1), 1)])
        self.assertEqual(deeds_to(read("(a b)"), read("(a), (b)")), [((A0, B1), (A1, B0), 0)])

    def test_more_deeds(self):
        for one, other in (("a b c", "c b a"), ("(a b c)", "a, b, c"), ("a, b, c", "(a b c)"), ("a b c d", "d c b a"),
                           ("(a), (b), (c)", "a b c"), ("a -b, c, (d)", "(a d), b c"), ("a b, c d", "(c a), -d, b")):
            with self.subTest(one=one, other=other):
                self.lead(read(one), read(other))

    def test_all_small_yards(self):
        for some in ("", "a", "ab", "abc"):
            yards = yards_of(some)
            for one in yards:
                for other in yards:
                    self.lead(one, other)

    def test_sixty_pieces(self):
        for free in (0, 2, 60, 120):
            for other_free in (0, 4, 60, 120):
                self.lead(mixed(60, 37, free), mixed(60, 71, other_free))


class Nearer(unittest.TestCase):
    def test_alike_yards(self):
        for text in ("", "a", "(a)", "a b, (c)"):
            self.assertEqual(nearer(read(text), read(text)), [])

    def test_some(self):
        self.assertEqual(nearer(read("a"), read("(a)")), [(((), A0), ((), A1), 0)])
        self.assertEqual(nearer(read("(a b)"), read("a, b")), [(NONE, (A0, B1), 0), (NONE, (A1, B0), 0)])
        self.assertEqual(nearer(read("(a b)"), read("(a), b")), [(NONE, (A0, B1), 0), (NONE, (A1, B0), 0),
                                                                 ((A0, B1), (A1, B0), 0)])
        self.assertEqual(nearer(read("a b"), read("a, b")), [(NONE, (A1, B0), 0)])

    def test_all_small_yards(self):
        for some in ("", "a", "ab", "abc"):
            yards = yards_of(some)
            many = searched(some)
            for one in yards:
                behind_them = [(deed, done(one, deed)) for deed in all_deeds(one)]
                for other in yards[::2]:
                    wanted = [deed for deed, after in behind_them if many[after, other] == many[one, other] - 1]
                    told = nearer(one, other)
                    self.assertEqual(told, wanted)
                    self.assertIs(type(told), list)

    def test_sixty_pieces(self):
        for free, other_free in ((0, 0), (4, 60), (120, 0)):
            one, other = mixed(60, 37, free), mixed(60, 71, other_free)
            told = nearer(one, other)
            everything = all_deeds(one)
            self.assertEqual(told, sorted(told))
            for deed in everything[::101]:
                self.assertEqual(deed in told, apart(done(one, deed), other) == apart(one, other) - 1)
            self.assertIn(deeds_to(one, other)[0], told)


class IsBetween(unittest.TestCase):
    def test_on_a_way_and_beside_it(self):
        self.assertIs(is_between(read("(a b)"), read("a b"), read("a, b")), True)
        self.assertIs(is_between(read("(a b)"), read("(a), b"), read("a, b")), False)
        self.assertIs(is_between(read("a b"), read("(a b)"), read("a, b")), False)
        self.assertIs(is_between(read("a b c"), read("a -b c"), read("a b c")), False)

    def test_both_sides_are_between(self):
        for one, other in (("", ""), ("a", "a"), ("a", "(a)"), ("a b", "(a), (b)")):
            self.assertIs(is_between(read(one), read(one), read(other)), True)
            self.assertIs(is_between(read(one), read(other), read(other)), True)

    def test_each_yard_on_the_way_is_between(self):
        for one, other in ((read("a b c d"), read("d c b a")), (mixed(60, 37, 4), mixed(60, 71, 60))):
            stands = one
            for deed in deeds_to(one, other):
                stands = done(stands, deed)
                self.assertIs(is_between(one, stands, other), True)

    def test_all_small_yards(self):
        for some in ("", "a", "ab"):
            self.all_between(some, 1)
        self.all_between("abc", 19)

    def all_between(self, some, step):
        yards = yards_of(some)
        many = searched(some)
        for one in yards[::step]:
            for mid in yards:
                for other in yards:
                    wanted = many[one, mid] + many[mid, other] == many[one, other]
                    self.assertIs(is_between(one, mid, other), wanted)


class UnlikeYards(unittest.TestCase):
    def test_names_that_are_not_the_same(self):
        for one, other in (("", "a"), ("a", "b"), ("a", "a b"), ("a b", "a, c"), ("(a)", "(a), (b)"), ("ab", "a b")):
            for ask in (deeds_to, nearer):
                with self.subTest(one=one, other=other, ask=ask):
                    with self.assertRaises(Unlike):
                        ask(read(one), read(other))
                    with self.assertRaises(Unlike):
                        ask(read(other), read(one))

    def test_is_between(self):
        for one, mid, other in (("a", "a", "b"), ("a", "b", "b"), ("a", "b", "a"), ("a", "b", "c"), ("", "a", ""),
                                ("a b", "a", "a b"), ("a b", "a b c", "b a"), ("a", "", "")):
            with self.subTest(one=one, mid=mid, other=other), self.assertRaises(Unlike):
                is_between(read(one), read(mid), read(other))


if __name__ == "__main__":
    unittest.main()
