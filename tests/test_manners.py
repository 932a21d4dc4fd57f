"""The first promise: nothing is changed, nothing hangs on what was handed in or told."""

import copy
import unittest

from cutjoin.deeds import all_deeds, back, done
from cutjoin.errors import BadDeed, BadPlaces, BadYard, Unlike
from cutjoin.fewest import deeds_to, is_between, nearer
from cutjoin.places import place_at, places_of, yard_by
from cutjoin.telling import read, written
from cutjoin.walks import apart, parts
from cutjoin.yards import names_of, need_yard, turned, yard_of


class HandedIn(unittest.TestCase):
    def setUp(self):
        self.rows = [[("d", 1)], [("c", 1), ("a", -1)]]
        self.rings = [[("f", 1), ("b", 1), ("e", -1)]]
        self.yard = yard_of(self.rows, self.rings)

    def test_lists_stay_as_they_were(self):
        rows, rings = copy.deepcopy(self.rows), copy.deepcopy(self.rings)
        yard_of(rows, rings)
        self.assertEqual((rows, rings), (self.rows, self.rings))

        some = ["c", "f", "c", "z"]
        turned(self.yard, some)
        self.assertEqual(some, ["c", "f", "c", "z"])

        places = places_of(self.yard)[::-1]
        before = list(places)
        yard_by(places)
        self.assertEqual(places, before)

    def test_refused_lists_stay_as_they_were(self):
        rows = [[("b", 1), ("a", 1)], [("a", 1)]]
        with self.assertRaises(BadYard):
            yard_of(rows, self.rings)
        self.assertEqual(rows, [[("b", 1), ("a", 1)], [("a", 1)]])
        places = [((), ("b", 0)), ((), ("a", 0))]
        with self.assertRaises(BadPlaces):
            yard_by(places)
        self.assertEqual(places, [((), ("b", 0)), ((), ("a", 0))])

    def test_a_yard_does_not_hang_on_the_lists_it_was_made_of(self):
        rows, rings = copy.deepcopy(self.rows), copy.deepcopy(self.rings)
        yard = yard_of(rows, rings)
        rows[1].append(("x", 1))
        rows.append([("y", 1)])
        rings[0][0] = ("z", 1)
        rings.clear()
        self.assertEqual(yard, self.yard)
        self.assertEqual(names_of(yard), ["a", "b", "c", "d", "e", "f"])

        places = places_of(self.yard)
        again = yard_by(places)
        places.clear()
        self.assertEqual(again, self.yard)

        some = ["a"]
        other = turned(self.yard, some)
        some.append("c")
        self.assertEqual(other, turned(self.yard, ["a"]))

    def test_yards_and_deeds_stay_as_they_were(self):
        one, mid, other = read("a b, (c)"), read("a, b, (c)"), read("(a b c)")
        yards = copy.deepcopy((one, mid, other))
        deed = (((), ("a", 0)), (("a", 1), ("b", 0)), 1)
        bad = (((), ("a", 0)), ((), ("b", 1)), 1)
        before = copy.deepcopy((deed, bad))
        for ask in (written, all_deeds):
            ask(one)
        is_between(one, mid, other)
        for ask in (done, back):
            ask(one, deed)
            with self.assertRaises(BadDeed):
                ask(one, bad)
        for ask in (parts, apart, deeds_to, nearer):
            ask(one, other)
            with self.assertRaises(Unlike):
                ask(one, read("a"))
        self.assertEqual((one, mid, other), yards)
        self.assertEqual((deed, bad), before)

    def test_refused_deeds_stay_as_they_were(self):
        place = [("a", 1), ("b", 0)]
        deed = [place, ((), ()), 0]
        for wrong in (deed, tuple(deed)):
            with self.assertRaises(BadDeed):
                done(read("a b"), wrong)
        self.assertEqual(deed, [[("a", 1), ("b", 0)], ((), ()), 0])


def asks_for_lists(yard, other):
    """What is told as a list, each by what asks for it."""
    return [
        lambda: names_of(yard), lambda: places_of(yard), lambda: all_deeds(yard), lambda: parts(yard, other),
        lambda: deeds_to(yard, other), lambda: nearer(yard, other),
    ]


class Told(unittest.TestCase):
    def setUp(self):
        self.yard = yard_of([[("b", 1), ("a", 1)]], [[("c", 1)]])
        self.other = read("-a b c")

    def test_a_told_list_is_the_askers_own(self):
        for ask in asks_for_lists(self.yard, self.other) + asks_for_lists(((), ()), ((), ())):
            first = ask()
            self.assertIs(type(first), list)
            expected = list(first)
            first.reverse()
            first.append("x")
            self.assertEqual(ask(), expected)
            first.clear()
            self.assertEqual(ask(), expected)

    def test_what_stands_in_a_told_list_cannot_be_changed(self):
        for ask in asks_for_lists(self.yard, self.other):
            told = ask()
            self.assertNotEqual(told, [])
            # only what is made of texts, numbers and tuples of them can be hashed here
            self.assertEqual(len({thing: True for thing in told}), len(told))

    def test_yards_are_tuples_throughout(self):
        deed = all_deeds(self.yard)[1]
        for yard in (self.yard, need_yard(self.yard), turned(self.yard, ["a"]), yard_by(places_of(self.yard)),
                     read("a -b, (c)"), done(self.yard, deed), done(done(self.yard, deed), back(self.yard, deed))):
            self.assertIs(type(yard), tuple)
            for lines in yard:
                self.assertIs(type(lines), tuple)
                for line in lines:
                    self.assertIs(type(line), tuple)
                    for piece in line:
                        self.assertIs(type(piece), tuple)
                        self.assertEqual([type(part) for part in piece], [str, int])

    def test_the_same_each_time(self):
        for _ in range(3):
            self.assertEqual(yard_of([[("b", 1), ("a", 1)]], [[("c", 1)]]), self.yard)
            self.assertEqual(turned(self.yard, ["a"]), yard_of([[("b", 1), ("a", -1)]], [[("c", 1)]]))
            self.assertEqual(place_at(self.yard, ("a", 0)), (("a", 0), ("b", 1)))
            self.assertEqual(yard_by(places_of(self.yard)), self.yard)
            self.assertEqual(need_yard(self.yard), self.yard)
            self.assertEqual(written(read("c b, (a)")), "-b -c, (-a)")
            self.assertEqual(done(self.yard, (((), ()), (("c", 0), ("c", 1)), 1)), read("b a, c"))
            self.assertEqual(apart(self.yard, self.other), 2)
            self.assertEqual(is_between(self.yard, read("b a, c"), self.other), False)

    def test_deeds_and_parts_are_asked_for_in_any_turn(self):
        first = [ask() for ask in asks_for_lists(self.yard, self.other)]
        again = [ask() for ask in asks_for_lists(self.yard, self.other)[::-1]]
        self.assertEqual(first, again[::-1])


if __name__ == "__main__":
    unittest.main()
