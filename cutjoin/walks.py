"""Walks by two yards in turn: the rounds and strings of ends, and how far apart the yards are."""

from cutjoin.errors import Unlike
from cutjoin.pieces import NOTHING
from cutjoin.places import partners, places_of
from cutjoin.yards import names_of

ROUND = "round"
STRING = "string"


def parts(one, other):
    """The rounds and strings of two yards, rising; Unlike where their names are not the same."""
    need_like(one, other)
    return sorted(parts_by(partners(places_of(one)), partners(places_of(other))))


def apart(one, other):
    """How far two yards are apart; Unlike where their names are not the same."""
    need_like(one, other)
    return apart_by(partners(places_of(one)), partners(places_of(other)))


def need_like(one, other):
    """Unlike unless two yards have the same names."""
    if names_of(one) != names_of(other):
        raise Unlike("the names of the two yards are not the same")


def parts_by(by_one, by_other):
    """The rounds and strings, by what stands with each end in the one yard and in the other."""
    # Strings are gone along from a side, before all rounds: what is left then has no side.
    # Ends rise, so a string is begun at its lesser side, and a round at its least end.
    rising = sorted(by_one)
    sides = [end for end in rising if NOTHING in (by_one[end], by_other[end])]
    found = []
    seen = set()
    for kind, starts in ((STRING, sides), (ROUND, rising)):
        for start in starts:
            if start not in seen:
                walk = _walk_from(start, by_one, by_other)
                found.append((kind, tuple(walk)))
                for end in walk:
                    seen.add(end)
    return found


def apart_by(by_one, by_other):
    """How far apart yards are, by what stands with each end in the one and in the other."""
    found = parts_by(by_one, by_other)
    rounds = [walk for kind, walk in found if kind == ROUND]
    odd_strings = [walk for kind, walk in found if kind == STRING and len(walk) % 2 == 1]
    # Each piece has two ends; of odd strings there is an even count, since rounds are even.
    return len(by_one) // 2 - len(rounds) - len(odd_strings) // 2


def _walk_from(start, by_one, by_other):
    """The ends met from one on, by both yards in turn, until nothing comes or the first end again."""
    # From a side of a string only that yard leads on in which something stands beside it.
    now, then = (by_one, by_other) if by_one[start] != NOTHING else (by_other, by_one)
    walk = [start]
    end = now[start]
    while end != NOTHING and end != start:
        walk.append(end)
        now, then = then, now
        end = now[end]
    return walk
