"""The first promise: nothing is changed, nothing hangs on what was handed in or told."""

import copy
import unittest

from cutjoin.errors import BadPlaces, BadYard
from cutjoin.places import place_at, places_of, yard_by
from cutjoin.yards import names_of, need_yard, turned, yard_of


class HandedIn(unittest.TestCase):
    def setUp(self):
        self.rows = [[("d", 1)], [("c", 1), ("a", -1)]]
        self.rings = [[("f", 1), ("b", 1), ("e", -1)]]
        self.yard = yard_of(self.rows, self.rings)

    def test_lists_stay_as_they_were(self):
        rows, rings = copy.deepcopy(self.rows), copy.deepcopy(self.rings)
        yard_of(rows, rings)
        self.assertEqual((rows, rings), (self.rows, self.rings))

        some = ["c", "f", "c", "z"]
        turned(self.yard, some)
        self.assertEqual(some, ["c", "f", "c", "z"])

        places = places_of(self.yard)[::-1]
        before = list(places)
        yard_by(places)
        self.assertEqual(places, before)

    def test_refused_lists_stay_as_they_were(self):
        rows = [[("b", 1), ("a", 1)], [("a", 1)]]
        with self.assertRaises(BadYard):
            yard_of(rows, self.rings)
        self.assertEqual(rows, [[("b", 1), ("a", 1)], [("a", 1)]])
        places = [((), ("b", 0)), ((), ("a", 0))]
        with self.assertRaises(BadPlaces):
            yard_by(places)
        self.assertEqual(places, [((), ("b", 0)), ((), ("a", 0))])

    def test_a_yard_does_not_hang_on_the_lists_it_was_made_of(self):
        rows, rings = copy.deepcopy(self.rows), copy.deepcopy(self.rings)
        yard = yard_of(rows, rings)
        rows[1].append(("x", 1))
        rows.append([("y", 1)])
        rings[0][0] = ("z", 1)
        rings.clear()
        self.assertEqual(yard, self.yard)
        self.assertEqual(names_of(yard), ["a", "b", "c", "d", "e", "f"])

        places = places_of(self.yard)
        again = yard_by(places)
        places.clear()
        self.assertEqual(again, self.yard)

        some = ["a"]
        other = turned(self.yard, some)
        some.append("c")
        self.assertEqual(other, turned(self.yard, ["a"]))


class Told(unittest.TestCase):
    def setUp(self):
        self.yard = yard_of([[("b", 1), ("a", 1)]], [[("c", 1)]])

    def test_a_told_list_is_the_askers_own(self):
        for ask in (names_of, places_of):
            with self.subTest(ask=ask):
                first = ask(self.yard)
                expected = list(first)
                first.reverse()
                first.append("x")
                self.assertEqual(ask(self.yard), expected)
                first.clear()
                self.assertEqual(ask(self.yard), expected)

    def test_lists_are_told(self):
        self.assertIs(type(names_of(self.yard)), list)
        self.assertIs(type(places_of(self.yard)), list)

    def test_yards_are_tuples_throughout(self):
        for yard in (self.yard, need_yard(self.yard), turned(self.yard, ["a"]), yard_by(places_of(self.yard))):
            self.assertIs(type(yard), tuple)
            for lines in yard:
                self.assertIs(type(lines), tuple)
                for line in lines:
                    self.assertIs(type(line), tuple)
                    for piece in line:
                        self.assertIs(type(piece), tuple)
                        self.assertEqual([type(part) for part in piece], [str, int])

    def test_the_same_each_time(self):
        for _ in range(3):
            self.assertEqual(yard_of([[("b", 1), ("a", 1)]], [[("c", 1)]]), self.yard)
            self.assertEqual(turned(self.yard, ["a"]), yard_of([[("b", 1), ("a", -1)]], [[("c", 1)]]))
            self.assertEqual(place_at(self.yard, ("a", 0)), (("a", 0), ("b", 1)))
            self.assertEqual(yard_by(places_of(self.yard)), self.yard)
            self.assertEqual(need_yard(self.yard), self.yard)


if __name__ == "__main__":
    unittest.main()
