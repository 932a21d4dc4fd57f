import unittest

from cutjoin.errors import BadPlaces
from cutjoin.places import place_at, places_of, yard_by
from cutjoin.yards import names_of, need_yard, yard_of
from samples import Pair, Text, Whole, names, odd_things, place_lists

A0, A1, B0, B1, C0, C1 = [(name, side) for name in "abc" for side in (0, 1)]


class PlacesOf(unittest.TestCase):
    def test_no_piece(self):
        self.assertEqual(places_of(((), ())), [])

    def test_a_row_of_one_piece(self):
        self.assertEqual(places_of(yard_of([[("a", 1)]], [])), [((), A0), ((), A1)])

    def test_a_ring_of_one_piece_has_a_place_of_both_its_ends(self):
        self.assertEqual(places_of(yard_of([], [[("a", 1)]])), [(A0, A1)])

    def test_a_row(self):
        self.assertEqual(places_of(yard_of([[("a", 1), ("b", 1)]], [])), [((), A0), ((), B1), (A1, B0)])
        self.assertEqual(places_of(yard_of([[("a", 1), ("b", -1)]], [])), [((), A0), ((), B0), (A1, B1)])
        self.assertEqual(places_of(yard_of([[("a", -1), ("b", 1)]], [])), [((), A1), ((), B1), (A0, B0)])
        self.assertEqual(places_of(yard_of([[("a", -1), ("b", -1)]], [])), [((), A1), ((), B0), (A0, B1)])

    def test_a_ring_of_two(self):
        self.assertEqual(places_of(yard_of([], [[("a", 1), ("b", 1)]])), [(A0, B1), (A1, B0)])
        self.assertEqual(places_of(yard_of([], [[("a", 1), ("b", -1)]])), [(A0, B0), (A1, B1)])

    def test_a_ring_of_three(self):
        self.assertEqual(places_of(yard_of([], [[("a", 1), ("b", -1), ("c", 1)]])), [(A0, C1), (A1, B1), (B0, C0)])

    def test_rows_and_rings(self):
        yard = yard_of([[("c", 1)], [("b", 1), ("a", 1)]], [[("d", 1)]])
        self.assertEqual(places_of(yard), [
            ((), A1), ((), B0), ((), C0), ((), C1), (A0, B1), (("d", 0), ("d", 1)),
        ])

    def test_each_end_stands_in_just_one_place(self):
        some = names(60)
        yard = yard_of([[(name, 1) for name in some[:20]], [(some[20], -1)]], [[(name, -1) for name in some[21:]]])
        ends = [end for place in places_of(yard) for end in place if end != ()]
        self.assertEqual(sorted(ends), [(name, side) for name in some for side in (0, 1)])
        self.assertEqual(len(places_of(yard)), 62)

    def test_rising(self):
        for places in place_lists("abc"):
            told = places_of(yard_by(places))
            self.assertEqual(told, sorted(told))


class YardBy(unittest.TestCase):
    def test_no_place(self):
        self.assertEqual(yard_by([]), ((), ()))

    def test_one_piece(self):
        self.assertEqual(yard_by([((), A0), ((), A1)]), yard_of([[("a", 1)]], []))
        self.assertEqual(yard_by([(A0, A1)]), yard_of([], [[("a", 1)]]))

    def test_rows_and_rings_in_any_order(self):
        yard = yard_of([[("a", 1), ("c", -1), ("b", 1)], [("d", 1)]], [[("e", 1), ("g", -1), ("f", 1)], [("h", 1)]])
        places = places_of(yard)
        for at in range(len(places)):
            self.assertEqual(yard_by(places[at:] + places[:at]), yard)
            self.assertEqual(yard_by((places[at:] + places[:at])[::-1]), yard)

    def test_all_yards_of_three_pieces(self):
        # a yard is a way to part its six ends into pairs and single ones: 76 of them
        yards = {}
        for places in place_lists("abc"):
            yard = yard_by(places[::-1])
            self.assertEqual(need_yard(yard), yard)
            self.assertEqual(names_of(yard), ["a", "b", "c"])
            self.assertEqual(places_of(yard), sorted(places))
            yards[yard] = True
        self.assertEqual(len(yards), 76)

    def test_sixty_pieces_and_no_more(self):
        some = names(61)
        for many in (59, 60):
            for yard in (yard_of([[(name, 1) for name in some[:many]]], []),
                         yard_of([], [[(name, 1) for name in some[:many]]]),
                         yard_of([[(name, 1)] for name in some[:many]], []),
                         yard_of([], [[(name, 1)] for name in some[:many]])):
                self.assertEqual(yard_by(places_of(yard)), yard)
        for places in ([((name, 0), (name, 1)) for name in some],
                       [((), (name, side)) for name in some for side in (0, 1)],
                       [((), (some[0], 0)), ((), (some[60], 1))]
                       + [((some[at], 1), (some[at + 1], 0)) for at in range(60)]):
            with self.assertRaises(BadPlaces):
                yard_by(places)

    def test_an_end_in_two_places(self):
        for places in ([((), A0), ((), A0)], [((), A0), ((), A1), ((), A1)], [(A0, A1), (A0, A1)],
                       [(A0, A1), ((), A0)], [(A0, B0), (A1, B0), ((), B1)], [((), A0), (A1, B0), (A1, B1)]):
            with self.subTest(places=places), self.assertRaises(BadPlaces):
                yard_by(places)

    def test_an_end_twice_in_one_place(self):
        for places in ([(A0, A0)], [(A0, A0), (A1, A1)], [(A0, A0), ((), A1)]):
            with self.subTest(places=places), self.assertRaises(BadPlaces):
                yard_by(places)

    def test_an_end_in_no_place(self):
        for places in ([((), A0)], [((), A1)], [(A0, B0)], [(A0, A1), ((), B0)], [(A1, B0), ((), A0)],
                       [((), A0), ((), B1)]):
            with self.subTest(places=places), self.assertRaises(BadPlaces):
                yard_by(places)

    def test_a_place_turned_about(self):
        for places in ([(A1, A0)], [(A0, ()), ((), A1)], [((), A0), ((), B1), (B0, A1)]):
            with self.subTest(places=places), self.assertRaises(BadPlaces):
                yard_by(places)

    def test_the_place_of_nothing_twice(self):
        for places in ([((), ())], [((), ()), (A0, A1)], [((), ()), ((), A0), ((), A1)]):
            with self.subTest(places=places), self.assertRaises(BadPlaces):
                yard_by(places)

    def test_tuples_for_lists_and_lists_for_tuples(self):
        for places in ((), ((A0, A1),), [[A0, A1]], [(list(A0), A1)], [(A0, list(A1))], [([], A0), ([], A1)],
                       {(A0, A1)}, {(A0, A1): True}, iter([(A0, A1)])):
            with self.subTest(places=places), self.assertRaises(BadPlaces):
                yard_by(places)

    def test_wrong_ends(self):
        for places in ([(("a", False), ("a", True))], [(("a", 0), ("a", True))], [(("a", 0), ("a", 1.0))],
                       [(("a", -1), ("a", 1))], [(("A", 0), ("A", 1))], [(("", 0), ("", 1))],
                       [(("abcdefghi", 0), ("abcdefghi", 1))], [((0, "a"), (1, "a"))], [(A0, A1, A1)], [(A0,)],
                       [(None, A0), (None, A1)], [(0, A0), (0, A1)], [("", A0), ("", A1)],
                       [Pair(A0, A1)], [(Pair("a", 0), A1)], [((Text("a"), 0), A1)], [(A0, ("a", Whole(1)))]):
            with self.subTest(places=places), self.assertRaises(BadPlaces):
                yard_by(places)

    def test_anything(self):
        for thing in odd_things() + ["ab", places_of]:
            for places in (thing, [thing], [(A0, A1), thing], [(thing, A0)], [(A0, thing)],
                           [((), A0), (thing, A1)], [((), thing), ((), A1)]):
                with self.assertRaises(BadPlaces):
                    yard_by(places)

    def test_names_of_eight_letters(self):
        yard = yard_of([[("abcdefgh", 1), ("zyxwvuts", 1)]], [])
        self.assertEqual(yard_by(places_of(yard)), yard)


class PlaceAt(unittest.TestCase):
    def setUp(self):
        self.yard = yard_of([[("a", 1), ("b", -1)]], [[("c", 1)]])

    def test_each_end(self):
        self.assertEqual(place_at(self.yard, A0), ((), A0))
        self.assertEqual(place_at(self.yard, A1), (A1, B1))
        self.assertEqual(place_at(self.yard, B0), ((), B0))
        self.assertEqual(place_at(self.yard, B1), (A1, B1))
        self.assertEqual(place_at(self.yard, C0), (C0, C1))
        self.assertEqual(place_at(self.yard, C1), (C0, C1))

    def test_no_piece_of_that_name(self):
        self.assertIsNone(place_at(self.yard, ("d", 0)))
        self.assertIsNone(place_at(self.yard, ("abcdefgh", 1)))
        self.assertIsNone(place_at(((), ()), A0))

    def test_all_yards_of_three_pieces(self):
        for places in place_lists("abc"):
            yard = yard_by(places)
            for end in (A0, A1, B0, B1, C0, C1):
                self.assertEqual([place_at(yard, end)], [place for place in places if end in place])


if __name__ == "__main__":
    unittest.main()
