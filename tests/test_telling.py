import itertools
import re
import unittest

from cutjoin.errors import BadText
from cutjoin.telling import read, written
from cutjoin.yards import names_of, need_yard, yard_of
from samples import Text, mixed, names, odd_things, small_yards


def line_texts(line, ring):
    """All texts of a row or ring: from either end, a ring begun at each of its pieces."""
    back = [(name, -way) for name, way in line[::-1]]
    readings = [line, back]
    if ring:
        readings = [some[at:] + some[:at] for some in readings for at in range(len(line))]
    texts = [" ".join(["-" * (way == -1) + name for name, way in some]) for some in readings]
    return ["(" + text + ")" for text in texts] if ring else texts


def yard_texts(yard):
    """All texts of a yard, in every order and read in every way."""
    rows, rings = yard
    choices = [line_texts(list(row), False) for row in rows] + [line_texts(list(ring), True) for ring in rings]
    return [", ".join(order) for texts in itertools.product(*choices) for order in itertools.permutations(texts)]


class Written(unittest.TestCase):
    def test_no_piece(self):
        self.assertEqual(written(((), ())), "")

    def test_one_piece(self):
        self.assertEqual(written((((("a", -1),),), ())), "-a")
        self.assertEqual(written(((), ((("a", -1),),))), "(-a)")

    def test_a_row_with_its_ways(self):
        self.assertEqual(written(yard_of([[("a", 1), ("b", 1)]], [])), "a b")
        self.assertEqual(written(yard_of([[("a", 1), ("b", -1)]], [])), "a -b")
        self.assertEqual(written(yard_of([[("a", -1), ("b", 1), ("c", -1)]], [])), "-a b -c")

    def test_a_ring_with_its_ways(self):
        self.assertEqual(written(yard_of([], [[("a", -1), ("b", -1)]])), "(-a -b)")
        self.assertEqual(written(yard_of([], [[("b", -1), ("c", 1), ("a", -1)]])), "(-a -b c)")

    def test_rows_come_before_rings(self):
        yard = yard_of([[("d", 1), ("e", 1)], [("c", 1)]], [[("b", 1)], [("a", 1), ("f", 1)]])
        self.assertEqual(written(yard), "-c, d e, (-a -f), (-b)")

    def test_the_text_stands_as_the_yard_does(self):
        # of the reading of a row and of a ring only the least one is told, as of the yard
        self.assertEqual(written(read("a -b, c, (d)")), "a -b, -c, (-d)")

    def test_all_small_yards(self):
        texts = {}
        for yard in small_yards():
            text = written(yard)
            self.assertIs(type(text), str)
            self.assertEqual(read(text), yard)
            self.assertEqual(text, ", ".join([line_texts(list(row), False)[0] for row in yard[0]]
                                             + [line_texts(list(ring), True)[0] for ring in yard[1]]))
            texts[text] = True
        self.assertEqual(len(texts), 1 + 2 + 10 + 76)

    def test_sixty_pieces(self):
        some = names(60)
        self.assertEqual(written(yard_of([[(name, 1) for name in some]], [])), " ".join(some))
        self.assertEqual(written(yard_of([[(name, 1)] for name in some], [])), "-" + ", -".join(some))
        self.assertEqual(written(yard_of([], [[(name, 1)] for name in some])), "(-" + "), (-".join(some) + ")")


class Read(unittest.TestCase):
    def test_the_empty_text(self):
        self.assertEqual(read(""), ((), ()))

    def test_the_documents_text(self):
        self.assertEqual(read("a -b, c, (d)"), yard_of([[("a", 1), ("b", -1)], [("c", 1)]], [[("d", 1)]]))
        self.assertEqual(read("a -b, c, (d)"), ((((("a", 1), ("b", -1))), (("c", -1),)), ((("d", -1),),)))

    def test_one_piece_either_way(self):
        for text in ("a", "-a"):
            self.assertEqual(read(text), yard_of([[("a", 1)]], []))
        for text in ("(a)", "(-a)"):
            self.assertEqual(read(text), yard_of([], [[("a", 1)]]))

    def test_a_row_from_either_end(self):
        row = yard_of([[("a", 1), ("b", -1), ("c", 1)]], [])
        self.assertEqual(read("a -b c"), row)
        self.assertEqual(read("-c b -a"), row)
        self.assertNotEqual(read("c -b a"), row)
        self.assertNotEqual(read("-a b -c"), row)

    def test_a_ring_begun_anywhere(self):
        ring = yard_of([], [[("a", 1), ("b", -1), ("c", 1)]])
        for text in ("(a -b c)", "(-b c a)", "(c a -b)", "(-c b -a)", "(b -a -c)", "(-a -c b)"):
            self.assertEqual(read(text), ring)
        for text in ("(a b c)", "(a -c b)", "a -b c"):
            self.assertNotEqual(read(text), ring)

    def test_rows_and_rings_mixed(self):
        yard = yard_of([[("a", 1), ("b", 1)], [("c", 1)]], [[("d", 1), ("e", 1)], [("f", 1)]])
        for order in itertools.permutations(["-b -a", "c", "(e d)", "(-f)"]):
            self.assertEqual(read(", ".join(order)), yard)

    def test_every_text_of_all_small_yards(self):
        for yard in small_yards():
            for text in yard_texts(yard):
                self.assertEqual(read(text), yard, text)

    def test_told_in_the_least_form(self):
        for text in ("c -b a, (f e -d)", "(c), b, (a)", "b, a", "-a, -b"):
            self.assertEqual(need_yard(read(text)), read(text))

    def test_names_of_one_and_eight_letters(self):
        self.assertEqual(read("z -abcdefgh, (y)"),
                         yard_of([[("z", 1), ("abcdefgh", -1)]], [[("y", 1)]]))

    def test_sixty_pieces_and_no_more(self):
        some = names(61)
        for many in (59, 60):
            line = [(name, 1) for name in some[:many]]
            single = [[piece] for piece in line]
            self.assertEqual(read(" ".join(some[:many])), yard_of([line], []))
            self.assertEqual(read("(" + " ".join(some[:many]) + ")"), yard_of([], [line]))
            self.assertEqual(read(", ".join(some[:many])), yard_of(single, []))
            self.assertEqual(read("(" + "), (".join(some[:many]) + ")"), yard_of([], single))
        for text in (" ".join(some), "(" + " ".join(some) + ")", ", ".join(some), "(" + "), (".join(some) + ")"):
            with self.assertRaises(BadText):
                read(text)
        for free in (0, 2, 60, 120):
            yard = mixed(60, 37, free)
            self.assertEqual(read(written(yard)), yard)


class Refused(unittest.TestCase):
    def refuse(self, *texts):
        for text in texts:
            with self.subTest(text=text), self.assertRaises(BadText):
                read(text)

    def test_names_that_are_none(self):
        self.refuse("A", "a1", "1", "abcdefghi", "-abcdefghi", "(abcdefghi)", "a_b", "\u00e4", "a\u0301", "\uff41",
                    "a B", "a, B", "(A)", "a.", "a\x00", "\ud800")

    def test_a_name_twice(self):
        self.refuse("a a", "a -a", "a, a", "a, (a)", "(a), (a)", "(a b a)", "a b, c -b", "-a, -a")

    def test_blanks(self):
        self.refuse(" ", "  ", " a", "a ", "a  b", "a ,b", "a , b", "a,  b", "a, b ", " a, b", "( a)", "(a )", "(a  b)",
                    " (a)", "(a) ", "(a),  (b)", "- a", "a - b", "a- b", "\ta", "a\tb", "a\n", "\na", "a\nb", "a,\nb",
                    "a\u00a0b", "a,\u00a0b")

    def test_commas(self):
        self.refuse(",", ", ", "a,", "a, ", ", a", ",a", "a,b", "a,, b", "a, , b", "a b,", "(a),(b)", "(a), ", ", (a)",
                    "(a, b)", "(a,)", "(,a)", "a;b", "a; b", "(a b,)", "(a), b,", ", , ")

    def test_brackets(self):
        self.refuse("(", ")", "()", "( )", "(a", "a)", ")a(", "((a))", "(a))", "((a)", "(a)(b)", "(a) (b)", "(a) b",
                    "a (b)", "a(b)", "(a)b", "a, ()", "(), a", "[a]", "{a}", "<a>", "(a (b))", "a b)", "(a b",
                    "(a b), c)", "(a), (b", "a, (", "a, )", "(-)", "((), a)")

    def test_strokes(self):
        self.refuse("-", "--", "--a", "a-", "-a-", "a-b", "a--b", "a -", "- -a", "-(a)", "-(a b)", "(--a)", "(a-)",
                    "(-)", "a, -", "-, a", "a --b", "+a", "a +b", "\u2212a", "\u2013a", "~a")

    def test_other_signs(self):
        self.refuse("a.b", "a/b", "a|b", "'a'", '"a"', "a:", "None", "0", "a\\", "a*", "()()", "(()", "a\rb")

    def test_no_texts(self):
        for thing in odd_things():
            if type(thing) is not str or thing != "":
                with self.assertRaises(BadText):
                    read(thing)
        for thing in (Text("a"), Text(""), b"a", ["a"], ("a",), [], (), ((), ()), yard_of([[("a", 1)]], [])):
            with self.subTest(thing=thing), self.assertRaises(BadText):
                read(thing)

    def test_every_short_text(self):
        row = "-?[a-z]+( -?[a-z]+)*"
        line = f"({row}|[(]{row}[)])"
        form = re.compile(f"({line}(, {line})*)?")
        for long in range(7):
            for signs in itertools.product("ab -,()", repeat=long):
                text = "".join(signs)
                words = re.findall("[a-z]+", text)
                if form.fullmatch(text) and len(words) == len(set(words)):
                    self.assertEqual(names_of(read(text)), sorted(words))
                else:
                    with self.assertRaises(BadText, msg=text):
                        read(text)


if __name__ == "__main__":
    unittest.main()
