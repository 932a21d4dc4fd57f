import unittest

from cutjoin.deeds import all_deeds, back, done
from cutjoin.errors import BadDeed
from cutjoin.places import places_of, yard_by
from cutjoin.telling import read
from cutjoin.yards import need_yard
from samples import Pair, Text, Whole, behind, mixed, odd_things, pairs_of_places, small_yards

A0, A1, B0, B1, C0, C1, D0, D1 = [(name, side) for name in "abcd" for side in (0, 1)]
NONE = ((), ())


def all_wanted(yard):
    """The deeds on a yard by a going through of all pairs of places by both ways, and the yards behind."""
    places = places_of(yard)
    wanted = {}
    for one, other in pairs_of_places(places):
        for way in (0, 1):
            after = behind(places, (one, other, way))
            if after != places:
                wanted[one, other, way] = yard_by(after)
    return wanted


class Done(unittest.TestCase):
    def leads(self, text, one, other, way, wanted):
        """The deed leads to the wanted yard, with its two places in either order."""
        with self.subTest(text=text, one=one, other=other, way=way):
            self.assertEqual(done(read(text), (one, other, way)), read(wanted))
            self.assertEqual(done(read(text), (other, one, way)), read(wanted))

    def test_two_joins_of_one_row(self):
        self.leads("a b c", (A1, B0), (B1, C0), 0, "a -b c")
        self.leads("a b c", (A1, B0), (B1, C0), 1, "a c, (b)")

    def test_two_joins_of_two_rows(self):
        self.leads("a b, c d", (A1, B0), (C1, D0), 0, "a -c, -b d")
        self.leads("a b, c d", (A1, B0), (C1, D0), 1, "a d, c b")

    def test_two_joins_of_rings(self):
        self.leads("(a b)", (A0, B1), (A1, B0), 0, "(a), (b)")
        self.leads("(a b)", (A0, B1), (A1, B0), 1, "(a -b)")
        self.leads("(a), (b)", (A0, A1), (B0, B1), 0, "(a -b)")
        self.leads("(a), (b)", (A0, A1), (B0, B1), 1, "(a b)")
        self.leads("a b, (c)", (A1, B0), (C0, C1), 0, "a c b")
        self.leads("a b, (c)", (A1, B0), (C0, C1), 1, "a -c b")

    def test_a_join_and_a_free_end(self):
        self.leads("a b c", (A1, B0), ((), C1), 0, "a, (b c)")
        self.leads("a b c", (A1, B0), ((), C1), 1, "a -c -b")
        self.leads("a b, c", (A1, B0), ((), C0), 0, "a, -c b")
        self.leads("a b, c", (A1, B0), ((), C0), 1, "a c, b")
        self.leads("a, (b)", (B0, B1), ((), A1), 0, "a -b")
        self.leads("a, (b)", (B0, B1), ((), A1), 1, "a b")

    def test_two_free_ends(self):
        self.leads("a", ((), A0), ((), A1), 0, "(a)")
        self.leads("a b", ((), A0), ((), B1), 0, "(a b)")
        self.leads("a, b", ((), A1), ((), B0), 0, "a b")
        self.leads("a, b", ((), A1), ((), B1), 0, "a -b")
        self.leads("a, b, (c)", ((), A0), ((), B0), 0, "-a b, (c)")

    def test_a_cut(self):
        for way in (0, 1):
            self.leads("a b", (A1, B0), NONE, way, "a, b")
            self.leads("a b c, d", (B1, C0), NONE, way, "a b, c, d")
            self.leads("(a)", (A0, A1), NONE, way, "a")
            self.leads("(a b)", (A0, B1), NONE, way, "a b")
            self.leads("(a b)", (A1, B0), NONE, way, "b a")

    def test_what_is_not_touched_stays(self):
        self.leads("a b, c -d, (e f), g, (h)", (A1, B0), ((), D0), 0, "a, (e f), g, c -d b, (h)")

    def test_all_small_yards(self):
        for yard in small_yards():
            for deed, after in all_wanted(yard).items():
                told = done(yard, deed)
                self.assertEqual(told, after, (yard, deed))
                self.assertEqual(need_yard(told), told)

    def test_sixty_pieces(self):
        for free in (0, 4, 60, 120):
            yard = mixed(60, 37, free)
            places = places_of(yard)
            for deed in all_deeds(yard)[::97]:
                self.assertEqual(places_of(done(yard, deed)), behind(places, deed))


class Back(unittest.TestCase):
    def test_each_kind(self):
        for text, one, other, way in (
                ("a b c", (A1, B0), (B1, C0), 0), ("a b c", (A1, B0), (B1, C0), 1),
                ("a b c", (A1, B0), ((), C1), 0), ("a b c", (A1, B0), ((), C1), 1),
                ("a b", ((), A0), ((), B1), 0), ("a", ((), A0), ((), A1), 0),
                ("a b", (A1, B0), NONE, 0), ("a b", (A1, B0), NONE, 1), ("(a)", (A0, A1), NONE, 0)):
            for deed in ((one, other, way), (other, one, way)):
                with self.subTest(text=text, deed=deed):
                    yard = read(text)
                    after = done(yard, deed)
                    self.assertEqual(done(after, back(yard, deed)), yard)

    def test_all_small_yards(self):
        for yard in small_yards():
            for deed, after in all_wanted(yard).items():
                again = back(yard, deed)
                self.assertIn(again, all_deeds(after))
                self.assertEqual(done(after, again), yard)

    def test_sixty_pieces(self):
        for free in (0, 4, 60, 120):
            yard = mixed(60, 37, free)
            for deed in all_deeds(yard)[::97]:
                self.assertEqual(done(done(yard, deed), back(yard, deed)), yard)


class AllDeeds(unittest.TestCase):
    def test_no_piece(self):
        self.assertEqual(all_deeds(((), ())), [])

    def test_one_piece(self):
        self.assertEqual(all_deeds(read("a")), [(((), A0), ((), A1), 0)])
        self.assertEqual(all_deeds(read("(a)")), [(NONE, (A0, A1), 0)])

    def test_a_row(self):
        self.assertEqual(all_deeds(read("a b")), [
            (NONE, (A1, B0), 0), (((), A0), ((), B1), 0),
            (((), A0), (A1, B0), 0), (((), A0), (A1, B0), 1),
            (((), B1), (A1, B0), 0), (((), B1), (A1, B0), 1),
        ])

    def test_a_ring(self):
        self.assertEqual(all_deeds(read("(a b)")), [
            (NONE, (A0, B1), 0), (NONE, (A1, B0), 0), ((A0, B1), (A1, B0), 0), ((A0, B1), (A1, B0), 1),
        ])

    def test_all_small_yards(self):
        for yard in small_yards():
            wanted = {}
            for (one, other, way), after in sorted(all_wanted(yard).items()):
                if one < other:
                    wanted.setdefault(after, (one, other, way))
            self.assertEqual(all_deeds(yard), sorted(wanted.values()))

    def test_each_one_leads_elsewhere(self):
        for yard in small_yards():
            behind_them = [done(yard, deed) for deed in all_deeds(yard)]
            self.assertEqual(len(set(behind_them)), len(behind_them))
            self.assertNotIn(yard, behind_them)
            self.assertEqual(set(behind_them), set(all_wanted(yard).values()))

    def test_sixty_pieces(self):
        # joins: pairs by two ways, and cuts; free ends: pairs by one way; both: pairs by two ways
        for free in (0, 4, 60, 120):
            joins = (120 - free) // 2
            deeds = all_deeds(mixed(60, 37, free))
            self.assertEqual(deeds, sorted(set(deeds)))
            self.assertEqual(len(deeds), joins * joins + free * (free - 1) // 2 + 2 * joins * free)

    def test_the_ways_are_plain_numbers(self):
        for yard in (read("a b, (c)"), read("(a)"), read("a, b")):
            for deed in all_deeds(yard) + [back(yard, deed) for deed in all_deeds(yard)]:
                self.assertEqual([type(part) for part in deed], [tuple, tuple, int])


class Refused(unittest.TestCase):
    def setUp(self):
        self.yard = read("a b, c, (d)")

    def refuse(self, *deeds):
        for deed in deeds:
            for ask in (done, back):
                with self.subTest(ask=ask), self.assertRaises(BadDeed):
                    ask(self.yard, deed)

    def refuse_pair(self, one, other, ways=(0, 1)):
        for way in ways:
            self.refuse((one, other, way), (other, one, way))

    def test_two_free_ends_by_way_1(self):
        self.refuse_pair(((), A0), ((), B1), [1])
        self.refuse_pair(((), A0), ((), C0), [1])
        self.refuse_pair(((), C0), ((), C1), [1])

    def test_a_free_end_with_the_place_of_nothing(self):
        for end in (A0, B1, C0, C1):
            self.refuse_pair(((), end), NONE)

    def test_the_same_place_twice(self):
        for place in [NONE] + places_of(self.yard):
            self.refuse_pair(place, place)

    def test_a_place_that_is_not_there(self):
        for place in ((A1, B1), (A0, B0), ((), A1), ((), D0), (C0, C1), (("e", 0), ("e", 1)), ((), ("e", 0))):
            self.refuse_pair(place, (A1, B0))
            self.refuse_pair(place, ((), A0))
            self.refuse_pair(place, NONE)

    def test_a_place_turned_about(self):
        for place in ((B0, A1), (D1, D0), (A0, ()), (C1, ())):
            for other in ((A1, B0), (D0, D1), ((), B1), NONE):
                self.refuse_pair(place, other)

    def test_another_way(self):
        for way in (-1, 2, 10 ** 40, True, False, 0.0, 1.0, "0", None, (), b"0", Whole(0), Whole(1), 0j, [0]):
            self.refuse_pair((A1, B0), (D0, D1), [way])
            self.refuse_pair(((), A0), ((), C0), [way])
            self.refuse_pair((D0, D1), NONE, [way])

    def test_lists_for_tuples(self):
        join = (A1, B0)
        self.refuse([join, (D0, D1), 0])
        self.refuse_pair(list(join), (D0, D1))
        self.refuse_pair((list(A1), B0), (D0, D1))
        self.refuse_pair((A1, list(B0)), (D0, D1))
        self.refuse_pair(join, [(), ()])
        self.refuse_pair(join, ([], []))
        self.refuse_pair(join, ((), []))
        self.refuse_pair(((), A0), ([], C0))

    def test_derived_kinds(self):
        self.refuse_pair(Pair(A1, B0), (D0, D1))
        self.refuse_pair((Pair("a", 1), B0), (D0, D1))
        self.refuse_pair(((Text("a"), 1), B0), (D0, D1))
        self.refuse_pair((("a", True), B0), (D0, D1))
        self.refuse_pair((("a", 1.0), B0), (D0, D1))
        self.refuse_pair((A1, ("b", False)), NONE)
        self.refuse_pair((A1, B0), Pair((), ()))

    def test_more_and_fewer_parts(self):
        join = (A1, B0)
        self.refuse((), (join,), (join, (D0, D1)), (join, (D0, D1), 0, 0), (join, 0), (0, join, (D0, D1)),
                    (join, 0, (D0, D1)), ((A1, B0, C0), (D0, D1), 0), ((A1,), (D0, D1), 0), (join, (), 0),
                    ((), join, 0), (join, ((),), 0), (join, ((), (), ()), 0), ((join, (D0, D1)), 0),
                    (("a",), (D0, D1), 0), (((("a", 1, 1)), B0), (D0, D1), 0))

    def test_anything(self):
        for thing in odd_things():
            self.refuse(thing, (thing, thing, 0), (thing, (A1, B0), 0), ((A1, B0), thing, 1),
                        ((thing, B0), (D0, D1), 0), ((D0, D1), (A1, thing), 1), ((thing, thing), (A1, B0), 0),
                        ((A1, B0), ((), thing), 0), (NONE, (thing, ()), 0))
            if type(thing) is not int or thing not in (0, 1):
                self.refuse(((A1, B0), (D0, D1), thing))

    def test_on_a_yard_without_pieces(self):
        for deed in ((NONE, NONE, 0), (NONE, NONE, 1), (((), A0), ((), A1), 0), ((A0, A1), NONE, 0), None, ()):
            for ask in (done, back):
                with self.subTest(deed=deed), self.assertRaises(BadDeed):
                    ask(((), ()), deed)

    def test_all_small_yards(self):
        for yard in small_yards():
            wanted = all_wanted(yard)
            for one, other in pairs_of_places(places_of(yard)):
                for way in (0, 1):
                    if (one, other, way) not in wanted:
                        for ask in (done, back):
                            with self.assertRaises(BadDeed):
                                ask(yard, (one, other, way))


if __name__ == "__main__":
    unittest.main()
