"""Places: what stands beside what in a yard, and the yard of such places."""

from cutjoin.errors import BadPlaces
from cutjoin.pieces import NOTHING, begins, ends, is_end, is_nothing, other_end, piece_from, place_of
from cutjoin.yards import MOST_PIECES, least_yard


def places_of(yard):
    """The places of a yard, rising."""
    rows, rings = yard
    places = []
    for row in rows:
        places.append(place_of(NOTHING, begins(row[0])))
        places.append(place_of(NOTHING, ends(row[-1])))
        places.extend(_joins(row))
    for ring in rings:
        places.extend(_joins((*ring, ring[0])))
    return sorted(places)


def yard_by(places):
    """The yard that has just these places; BadPlaces for those of no yard."""
    _need_places(places)
    return yard_with(places)


def yard_with(places):
    """The yard of places that are known to be those of one."""
    beside = partners(places)
    rows = _lines_from(beside, [end for end in beside if beside[end] == NOTHING])
    in_rows = [name for row in rows for name, _ in row]
    # Rows are followed from their free ends first: only then does what is left lie in rings.
    rings = _lines_from(beside, [end for end in beside if end[0] not in in_rows])
    return least_yard(rows, rings)


def place_at(yard, end):
    """The place of a yard that has an end, None where no piece has that name."""
    for place in places_of(yard):
        if end in place:
            return place
    return None


def is_place(thing):
    """Whether anything is a place of some yard."""
    if type(thing) != tuple or len(thing) != 2:
        return False
    one, other = thing
    return (is_nothing(one) or is_end(one)) and is_end(other) and one < other


def partners(places):
    """A dict that gives for each end what stands with it in its place."""
    beside = {}
    for one, other in places:
        beside[other] = one
        if one != NOTHING:
            beside[one] = other
    return beside


def _joins(line):
    """The places of the neighbours in a line of pieces."""
    return [place_of(ends(one), begins(other)) for one, other in zip(line, line[1:])]


def _need_places(places):
    """BadPlaces unless these are places in which each end of each piece stands just once."""
    if type(places) != list or not all([is_place(place) for place in places]):
        raise BadPlaces("the places are a list of tuples of two ends, the lesser one first")
    seen = set()
    for place in places:
        for end in place:
            if end in seen:
                raise BadPlaces("an end stands in two places")
            if end != NOTHING:
                seen.add(end)
    for name, side in sorted(seen):
        if other_end((name, side)) not in seen:
            raise BadPlaces(f"an end of {name} stands in no place")
    if len(seen) > 2 * MOST_PIECES:
        raise BadPlaces(f"the places have more than {MOST_PIECES} pieces")


def _lines_from(beside, starts):
    """The rows or rings that begin with some ends, each one once."""
    seen = set()
    lines = []
    for start in starts:
        if start[0] not in seen:
            line = _line_from(beside, start)
            lines.append(line)
            for name, _ in line:
                seen.add(name)
    return lines


def _line_from(beside, start):
    """The pieces met from an end on, until nothing comes or that end again."""
    line = [piece_from(start)]
    end = beside[other_end(start)]
    while end != NOTHING and end != start:
        line.append(piece_from(end))
        end = beside[other_end(end)]
    return line
