"""Fewest deeds that lead from one yard to another one of the same names."""

from cutjoin.deeds import NOTHING_TWICE, all_deeds, deed_for, put_by
from cutjoin.pieces import NOTHING, place_of
from cutjoin.places import partners, places_of
from cutjoin.walks import apart, apart_by, need_like


def deeds_to(one, other):
    """Fewest deeds, one behind the other, from a yard to another one; Unlike."""
    need_like(one, other)
    beside = partners(places_of(one))
    deeds = []
    # Places fall here, so the joins of the other yard come before its free ends: a deed that
    # makes such a join brings the yards one nearer, and so does cutting a join, but only once
    # neither of its ends is to be joined any more.
    for place in places_of(other)[::-1]:
        taken = [_place_with(beside, end) for end in place]
        if place not in taken:
            deed = deed_for(taken[0], taken[1], place)
            deeds.append(deed)
            beside = _beside_behind(beside, deed)
    return deeds


def nearer(one, other):
    """Those of all deeds on a yard that bring it one nearer to another one; Unlike."""
    wanted = apart(one, other) - 1
    by_one = partners(places_of(one))
    by_other = partners(places_of(other))
    return [deed for deed in all_deeds(one) if apart_by(_beside_behind(by_one, deed), by_other) == wanted]


def is_between(one, mid, other):
    """Whether a yard lies on some way of fewest deeds from one to another; Unlike."""
    whole = apart(one, other)
    return apart(one, mid) + apart(mid, other) == whole


def _place_with(beside, end):
    """The place that an end stands in, and for nothing the place of nothing twice."""
    return NOTHING_TWICE if end == NOTHING else place_of(beside[end], end)


def _beside_behind(beside, deed):
    """What stands with each end behind a deed."""
    put = partners(put_by(deed))
    return {end: put.get(end, beside[end]) for end in beside}
