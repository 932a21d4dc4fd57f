import itertools
import unittest

from cutjoin.errors import BadYard
from cutjoin.yards import names_of, need_yard, turned, yard_of
from samples import Always, Pair, Text, Whole, Wild, deep, itself_in_itself, names, odd_things


def backwards(line):
    return [(name, -way) for name, way in reversed(line)]


def readings(ring):
    """A ring begun at each of its pieces and read both ways."""
    return [line[at:] + line[:at] for line in (ring, backwards(ring)) for at in range(len(ring))]


def lines_of(some):
    """All lines of all of some names, each piece either way."""
    for order in itertools.permutations(some):
        for ways in itertools.product((1, -1), repeat=len(order)):
            yield list(zip(order, ways))


class YardOf(unittest.TestCase):
    def test_no_piece_at_all(self):
        self.assertEqual(yard_of([], []), ((), ()))

    def test_a_row_of_one_piece(self):
        self.assertEqual(yard_of([[("a", 1)]], []), (((("a", -1),),), ()))
        self.assertEqual(yard_of([[("a", -1)]], []), (((("a", -1),),), ()))

    def test_a_ring_of_one_piece(self):
        self.assertEqual(yard_of([], [[("a", 1)]]), ((), ((("a", -1),),)))
        self.assertEqual(yard_of([], [[("a", -1)]]), ((), ((("a", -1),),)))

    def test_a_row_is_the_lesser_one_of_both_readings(self):
        least = (((("a", 1), ("c", 1), ("b", -1)),), ())
        self.assertEqual(yard_of([[("a", 1), ("c", 1), ("b", -1)]], []), least)
        self.assertEqual(yard_of([[("b", 1), ("c", -1), ("a", -1)]], []), least)

    def test_a_row_is_not_begun_elsewhere(self):
        self.assertEqual(yard_of([[("b", 1), ("a", 1), ("c", 1)]], []), (((("b", 1), ("a", 1), ("c", 1)),), ()))

    def test_a_ring_is_the_least_one_of_all_readings(self):
        ring = [("c", 1), ("a", 1), ("d", -1), ("b", 1)]
        for reading in readings(ring):
            with self.subTest(reading=reading):
                self.assertEqual(yard_of([], [reading]), ((), ((("a", -1), ("c", -1), ("b", -1), ("d", 1)),)))

    def test_rows_and_rings_rise(self):
        yard = yard_of(
            [[("f", 1)], [("e", 1), ("b", 1)], [("a", 1), ("h", 1)]],
            [[("g", 1)], [("d", 1), ("c", 1)]],
        )
        self.assertEqual(yard, (
            ((("a", 1), ("h", 1)), (("b", -1), ("e", -1)), (("f", -1),)),
            ((("c", -1), ("d", -1)), (("g", -1),)),
        ))

    def test_the_order_of_rows_and_of_rings_tells_nothing(self):
        rows = [[("a", 1)], [("b", 1), ("f", -1)], [("c", -1)]]
        rings = [[("d", 1)], [("e", -1), ("g", 1)]]
        for some in itertools.permutations(rows):
            for others in itertools.permutations(rings):
                self.assertEqual(yard_of(list(some), list(others)), yard_of(rows, rings))

    def test_every_reading_of_a_line_of_three(self):
        for line in lines_of(("a", "b", "c")):
            rows, rings = yard_of([line], [])
            self.assertEqual((rows, rings), ((min(tuple(line), tuple(backwards(line))),), ()))
            rows, rings = yard_of([], [line])
            self.assertEqual((rows, rings), ((), (min(tuple(reading) for reading in readings(line)),)))

    def test_as_many_rows_and_rings_as_there_are(self):
        # 3 pieces in one row: 3! orders of 2^3 ways, each told twice; in one ring: each told 6 times
        lines = list(lines_of(("a", "b", "c")))
        self.assertEqual(len({yard_of([line], []) for line in lines}), 24)
        self.assertEqual(len({yard_of([], [line]) for line in lines}), 8)

    def test_sixty_pieces_and_no_more(self):
        pieces = [(name, 1) for name in names(61)]
        self.assertEqual(yard_of([pieces[:60]], []), ((tuple(pieces[:60]),), ()))
        self.assertEqual(len(yard_of([], [pieces[:60]])[1][0]), 60)
        self.assertEqual(len(yard_of([pieces[:30]], [pieces[30:60]])[0][0]), 30)
        self.assertEqual(len(yard_of([[piece] for piece in pieces[:60]], [])[0]), 60)
        for rows, rings in (([pieces], []), ([], [pieces]), ([pieces[:30]], [pieces[30:]]),
                            ([[piece] for piece in pieces], []), ([], [[piece] for piece in pieces])):
            with self.assertRaises(BadYard):
                yard_of(rows, rings)

    def test_a_name_twice(self):
        for rows, rings in (
            ([[("a", 1), ("a", 1)]], []), ([[("a", 1), ("b", 1), ("a", -1)]], []), ([[("a", 1)], [("a", -1)]], []),
            ([], [[("a", 1), ("a", -1)]]), ([], [[("a", 1)], [("a", 1)]]), ([[("a", 1)]], [[("a", 1)]]),
        ):
            with self.subTest(rows=rows, rings=rings), self.assertRaises(BadYard):
                yard_of(rows, rings)

    def test_a_row_or_ring_without_pieces(self):
        for rows, rings in (([[]], []), ([], [[]]), ([[("a", 1)], []], []), ([], [[], [("a", 1)]])):
            with self.subTest(rows=rows, rings=rings), self.assertRaises(BadYard):
                yard_of(rows, rings)

    def test_tuples_for_lists(self):
        for rows, rings in (((), []), ([], ()), (([("a", 1)],), []), ([(("a", 1),)], []), ([], [(("a", 1),)])):
            with self.subTest(rows=rows, rings=rings), self.assertRaises(BadYard):
                yard_of(rows, rings)

    def test_lists_for_pieces(self):
        with self.assertRaises(BadYard):
            yard_of([[["a", 1]]], [])

    def test_wrong_rows_and_rings_of_any_kind(self):
        for thing in odd_things() + ["ab", "abc", ("a", 1), {"rows": []}]:
            with self.assertRaises(BadYard):
                yard_of(thing, [])
            with self.assertRaises(BadYard):
                yard_of([], thing)

    def test_wrong_lines_and_pieces_of_any_kind(self):
        for thing in odd_things():
            for lines in ([thing], [[("a", 1)], thing], [[thing]], [[("b", 1), thing]]):
                with self.assertRaises(BadYard):
                    yard_of(lines, [])
                with self.assertRaises(BadYard):
                    yard_of([], lines)

    def test_derived_kinds(self):
        class Many(list):
            pass
        for rows in (Many(), [Many([("a", 1)])], [[Pair("a", 1)]], [[(Text("a"), 1)]], [[("a", Whole(1))]]):
            with self.assertRaises(BadYard):
                yard_of(rows, [])


class NeedYard(unittest.TestCase):
    def test_yards_in_their_least_form(self):
        for rows, rings in (([], []), ([[("a", 1)]], []), ([], [[("a", 1)]]),
                            ([[("b", 1), ("a", 1)], [("c", 1)]], [[("e", 1), ("d", -1)], [("f", 1)]]),
                            ([[(name, 1) for name in names(60)]], [])):
            yard = yard_of(rows, rings)
            with self.subTest(yard=yard):
                self.assertEqual(need_yard(yard), yard)

    def test_what_is_not_in_its_least_form(self):
        for yard in (
            (((("a", 1),),), ()), ((), ((("a", 1),),)), (((("b", 1), ("a", 1)),), ()),
            ((), ((("a", 1), ("b", 1)),)), ((), ((("b", -1), ("a", -1)),)),
            ((), ((("a", -1), ("b", -1), ("c", -1))[::-1],)),
            (((("b", -1),), (("a", -1),)), ()), ((), ((("b", -1),), (("a", -1),))),
        ):
            with self.subTest(yard=yard), self.assertRaises(BadYard):
                need_yard(yard)
            rows, rings = yard
            need_yard(yard_of([list(row) for row in rows], [list(ring) for ring in rings]))

    def test_each_reading_but_the_least(self):
        for line in lines_of(("a", "b", "c")):
            for yard, least in (
                (((tuple(line),), ()), yard_of([line], [])),
                (((), (tuple(line),)), yard_of([], [line])),
            ):
                if yard == least:
                    self.assertEqual(need_yard(yard), yard)
                else:
                    with self.assertRaises(BadYard):
                        need_yard(yard)

    def test_what_is_no_yard(self):
        piece = ("a", -1)
        for thing in (
            (), ((),), ((), (), ()), [(), ()], ([], ()), ((), []), (([piece],), ()), ((), ([piece],)),
            ([(piece,)], ()), (((["a", -1],),), ()), (((),), ()), ((), ((),)), ((piece,), ()), (((piece,),),),
            (((piece,), (piece,)), ()), (((piece, piece),), ()), (((piece,),), ((piece,),)), [[], []],
            (((("a", True),),), ()), (((("a", -1.0),),), ()), (((("A", -1),),), ()), (((("", -1),),), ()),
            (((("abcdefghi", -1),),), ()), ("", ""), ("ab", "cd"), (None, None), ((), None), (None, ()),
            (((Pair("a", -1),),), ()), (((("a", Whole(-1)),),), ()), ({}, {}), (Always(), Always()), (Wild(), ()),
        ):
            with self.assertRaises(BadYard):
                need_yard(thing)

    def test_anything(self):
        for thing in odd_things():
            for yard in (thing, (thing, ()), ((), thing), ((thing,), ()), ((), (thing,)), (((thing,),), ()),
                         ((), ((thing,),))):
                with self.assertRaises(BadYard):
                    need_yard(yard)

    def test_what_python_cannot_compare(self):
        for thing in (deep(), itself_in_itself(), (deep(), deep())):
            with self.assertRaises(BadYard):
                need_yard(thing)

    def test_more_than_sixty_pieces(self):
        for yard in (((tuple((name, 1) for name in names(61)),), ()),
                     ((), tuple(((name, -1),) for name in names(61)))):
            with self.assertRaises(BadYard):
                need_yard(yard)


class NamesOf(unittest.TestCase):
    def test_rising(self):
        yard = yard_of([[("d", 1), ("b", 1)], [("ab", 1)]], [[("c", 1), ("a", -1)], [("abc", 1)]])
        self.assertEqual(names_of(yard), ["a", "ab", "abc", "b", "c", "d"])

    def test_no_piece(self):
        self.assertEqual(names_of(((), ())), [])

    def test_sixty(self):
        pieces = [(name, 1) for name in names(60)]
        self.assertEqual(names_of(yard_of([pieces[40:]], [pieces[:40]])), names(60))


class Turned(unittest.TestCase):
    def setUp(self):
        self.yard = yard_of([[("a", 1), ("b", 1), ("c", 1)]], [[("d", -1), ("e", 1)]])

    def test_in_a_row(self):
        self.assertEqual(turned(self.yard, ["b"]), yard_of([[("a", 1), ("b", -1), ("c", 1)]], [[("d", -1), ("e", 1)]]))

    def test_in_a_row_that_is_then_read_from_its_other_end(self):
        yard = yard_of([[("b", 1), ("a", -1), ("c", 1)]], [])
        self.assertEqual(turned(yard, ["b", "a"]), (((("b", -1), ("a", 1), ("c", 1)),), ()))
        two = (((("a", 1), ("b", 1)),), ())
        self.assertEqual(turned(two, ["a", "b"]), (((("a", -1), ("b", -1)),), ()))

    def test_in_a_ring(self):
        self.assertEqual(turned(self.yard, ["d"]), yard_of([[("a", 1), ("b", 1), ("c", 1)]], [[("d", 1), ("e", 1)]]))
        self.assertEqual(turned(self.yard, ["d"])[1], ((("d", -1), ("e", -1)),))

    def test_what_is_told_is_in_its_least_form(self):
        for many in range(6):
            for some in itertools.combinations("abcde", many):
                yard = turned(self.yard, list(some))
                self.assertEqual(need_yard(yard), yard)
                self.assertEqual(turned(yard, list(some)), self.yard)

    def test_rows_and_rings_stay_rising(self):
        yard = (((("a", -1), ("c", 1)), (("b", -1),)), ())
        self.assertEqual(turned(yard, ["c", "a"]), (((("a", 1), ("c", -1)), (("b", -1),)), ()))

    def test_a_piece_alone_is_the_same_either_way(self):
        yard = (((("a", -1),),), ((("b", -1),),))
        self.assertEqual(turned(yard, ["a", "b"]), yard)

    def test_no_name_and_other_names(self):
        self.assertEqual(turned(self.yard, []), self.yard)
        self.assertEqual(turned(self.yard, ["f", "zz"]), self.yard)
        self.assertEqual(turned(self.yard, ["f", "b"]), turned(self.yard, ["b"]))
        self.assertEqual(turned(((), ()), ["a"]), ((), ()))

    def test_a_name_told_twice_counts_once(self):
        self.assertEqual(turned(self.yard, ["b", "b"]), turned(self.yard, ["b"]))
        self.assertEqual(turned(self.yard, ["b", "d", "b", "b", "d"]), turned(self.yard, ["d", "b"]))

    def test_sixty_pieces(self):
        yard = yard_of([[(name, 1) for name in names(60)]], [])
        self.assertEqual(turned(yard, names(60)), yard_of([[(name, -1) for name in names(60)]], []))


if __name__ == "__main__":
    unittest.main()
