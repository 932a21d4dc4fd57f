"""What the tests share: things of wrong kinds, and all yards of a few names."""

from collections import namedtuple

from cutjoin.places import yard_by

Pair = namedtuple("Pair", "name way")


class Text(str):
    """A text that is not plainly one."""


class Whole(int):
    """A whole number that is not plainly one."""


class Always:
    """Equal to anything, and as long as anything."""

    def __eq__(self, other):
        return True

    def __hash__(self):
        return 0

    def __len__(self):
        return 2


class Wild:
    """Fails whatever is asked of it."""

    def __eq__(self, other):
        raise RuntimeError("asked whether it is equal")

    __hash__ = None

    def __len__(self):
        raise RuntimeError("asked for its length")

    def __iter__(self):
        raise RuntimeError("gone over")

    def __repr__(self):
        raise RuntimeError("shown")


def itself_in_itself():
    """A list that holds just itself."""
    thing = []
    thing.append(thing)
    return thing


def deep():
    """A tuple too deep for Python to compare with another one."""
    thing = ()
    for _ in range(100000):
        thing = (thing,)
    return thing


def odd_things():
    """Things that are neither a name nor a piece, an end, a place, a list of these, or a yard."""
    return [
        None, True, False, 0, 1, -1, 2, 10 ** 40, 1.0, 0.0, float("nan"), 1 + 0j,
        "", "A", "1", b"", b"a", bytearray(b"a"), ("",), ("a",), (None,), (None, None), (1, 2),
        ("a", 1, 1), ("a", "1"), ("a", None), ("a", 2), ("a", 1.0), ("a", True), ("a", False),
        (1, "a"), (b"a", 1), ("A", 1), ("", 1), (["a"], 1), ("a", [1]), ["a", 1], Pair("a", 1),
        (Text("a"), 1), ("a", Whole(1)), {}, {"a": 1}, {1, 2}, frozenset(), range(2), iter([]), object(),
        len, str, ValueError("a"), Always(), (Always(), 1), ("a", Always()), (Always(), Always()),
        Wild(), (Wild(), 1), ("a", Wild()), (Wild(), Wild()), itself_in_itself(), deep(), lambda: 1,
    ]


def names(many):
    """Some names, rising."""
    return ["n" + chr(97 + at // 26) + chr(97 + at % 26) for at in range(many)]


def partings(ends):
    """All ways to part ends into places: each with another end, or free."""
    if not ends:
        return [[]]
    first, rest = ends[0], ends[1:]
    found = [[((), first)] + more for more in partings(rest)]
    for at, other in enumerate(rest):
        for more in partings(rest[:at] + rest[at + 1:]):
            found.append([(first, other)] + more)
    return found


def place_lists(some):
    """The places of every yard that has just these names, rising ones."""
    return partings([(name, side) for name in some for side in (0, 1)])


def yards_of(some):
    """Every yard that has just these names, rising ones."""
    return [yard_by(places) for places in place_lists(some)]


def small_yards():
    """Every yard of up to three pieces, named from a on."""
    return [yard for some in ("", "a", "ab", "abc") for yard in yards_of(some)]


def mixed(many, step, free):
    """A yard of many pieces, an even count of its ends free, and the others joined as a step has it."""
    some = names(many)
    ends = [(some[at // 2], at % 2) for at in [at * step % (2 * many) for at in range(2 * many)]]
    joins = [tuple(sorted(ends[at:at + 2])) for at in range(free, 2 * many, 2)]
    return yard_by([((), end) for end in ends[:free]] + joins)


def behind(places, deed):
    """The places behind a deed, as the document says it word by word."""
    one, other, way = deed
    (a, b), (c, d) = one, other
    put = [(a, c), (b, d)] if way == 0 else [(a, d), (b, c)]
    left = [place for place in places if place not in (one, other)]
    return sorted(left + [tuple(sorted(place)) for place in put if place != ((), ())])


def pairs_of_places(places):
    """All pairs of unlike ones among places and the place of nothing twice, in either order."""
    some = [((), ())] + places
    return [(one, other) for one in some for other in some if one != other]
