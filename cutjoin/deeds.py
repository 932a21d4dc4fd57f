"""Deeds: two places of a yard are taken away, and their ends joined anew."""

from itertools import combinations

from cutjoin.errors import BadDeed
from cutjoin.pieces import is_nothing, place_of
from cutjoin.places import is_place, places_of, yard_with

# To cut a join is a deed with this place; where two free ends are joined, it is left over.
NOTHING_TWICE = ((), ())


def done(yard, deed):
    """The yard behind a deed; BadDeed for what is no deed on this yard."""
    places = places_of(yard)
    _need_deed(places, deed)
    one, other, _ = deed
    left = [place for place in places if place not in (one, other)]
    put = [place for place in put_by(deed) if place != NOTHING_TWICE]
    return yard_with([*left, *put])


def back(yard, deed):
    """A deed by which the yard behind a deed leads to this one again; BadDeed."""
    _need_deed(places_of(yard), deed)
    one, other = put_by(deed)
    return deed_for(one, other, deed[0])


def all_deeds(yard):
    """The deeds on a yard, rising, one for each yard to which they lead."""
    # The places rise, and nothing twice is less than each of them; so the deeds rise too.
    places = [NOTHING_TWICE, *places_of(yard)]
    deeds = []
    for one, other in combinations(places, 2):
        deeds.extend([(one, other, way) for way in _ways(one, other)])
    return deeds


def put_by(deed):
    """The two places, rising, that a deed puts in the stead of those it takes."""
    (first, second), (third, fourth), way = deed
    if way == 1:
        third, fourth = fourth, third
    return sorted([place_of(first, third), place_of(second, fourth)])


def deed_for(one, other, wanted):
    """The deed that takes two places, the lesser one first, and puts a wanted place."""
    lesser, greater = sorted([one, other])
    way = 0 if wanted in put_by((lesser, greater, 0)) else 1
    return (lesser, greater, way)


def _ways(one, other):
    """The ways of the deeds on two places, the lesser one first, that lead to different yards."""
    # A deed that puts the places that it takes leads to the same yard again, and is none.
    met = [[one, other]]
    ways = []
    for way in (0, 1):
        put = put_by((one, other, way))
        if put not in met:
            met.append(put)
            ways.append(way)
    return ways


def _need_deed(places, deed):
    """BadDeed unless this is a deed on the yard of some places."""
    if not _is_like_a_deed(deed):
        raise BadDeed("a deed is a tuple of two places and a way, 0 or 1")
    one, other, _ = deed
    takable = [NOTHING_TWICE, *places]
    if one == other or one not in takable or other not in takable:
        raise BadDeed("a deed takes two unlike places of the yard, or one and nothing twice")
    if put_by(deed) == sorted([one, other]):
        raise BadDeed("the deed would lead to the same yard again")


def _is_like_a_deed(thing):
    """Whether a thing has the form of a deed, on whatever yard."""
    if type(thing) != tuple or len(thing) != 3:
        return False
    one, other, way = thing
    return _is_takable(one) and _is_takable(other) and type(way) == int and way in (0, 1)


def _is_takable(thing):
    """Whether a thing is a place of some yard, or the place of nothing twice."""
    return is_place(thing) or _is_nothing_twice(thing)


def _is_nothing_twice(thing):
    return type(thing) == tuple and len(thing) == 2 and all([is_nothing(side) for side in thing])
