"""Yards: rows and rings of pieces, told in their one least form."""

from cutjoin.errors import BadYard
from cutjoin.pieces import flipped, is_piece

MOST_PIECES = 60


def yard_of(rows, rings):
    """The yard of two lists of lists of pieces; BadYard for what makes none."""
    if not _is_list_of_lists(rows) or not _is_list_of_lists(rings):
        raise BadYard("rows and rings are two lists of lists of pieces")
    _need_pieces([*rows, *rings])
    return least_yard(rows, rings)


def need_yard(thing):
    """The yard that a thing is; BadYard for what is none, or not in its least form."""
    if not _is_pair_of_tuples(thing):
        raise BadYard("a yard is a tuple of two tuples of rows and rings")
    rows, rings = thing
    _need_pieces([*rows, *rings])
    yard = least_yard(rows, rings)
    if yard != thing:
        raise BadYard("the yard is not in its least form")
    return yard


def names_of(yard):
    """The names of a yard's pieces, rising."""
    return sorted([name for lines in yard for line in lines for name, _ in line])


def turned(yard, names):
    """The yard with the pieces of some names each lying its other way."""
    rows, rings = yard
    return least_yard(
        [_turned_line(row, names) for row in rows],
        [_turned_line(ring, names) for ring in rings],
    )


def least_yard(rows, rings):
    """The least form of a yard whose rows and rings are known to be sound."""
    return (
        tuple(sorted([_least_row(row) for row in rows])),
        tuple(sorted([_least_ring(ring) for ring in rings])),
    )


def _is_list_of_lists(thing):
    return type(thing) == list and all([type(line) == list for line in thing])


def _is_tuple_of_tuples(thing):
    return type(thing) == tuple and all([type(line) == tuple for line in thing])


def _is_pair_of_tuples(thing):
    """Whether a thing is a tuple of two tuples of tuples, whatever these hold."""
    if type(thing) != tuple or len(thing) != 2:
        return False
    return all([_is_tuple_of_tuples(lines) for lines in thing])


def _need_pieces(lines):
    """BadYard unless rows and rings hold pieces, not too many, no name twice."""
    seen = set()
    for line in lines:
        if len(line) == 0:
            raise BadYard("a row or ring has no piece")
        for piece in line:
            if not is_piece(piece):
                raise BadYard("a row or ring holds what is no piece")
            name, _ = piece
            if name in seen:
                raise BadYard(f"the name {name} is there twice")
            seen.add(name)
    if len(seen) > MOST_PIECES:
        raise BadYard(f"the yard has more than {MOST_PIECES} pieces")


def _backwards(line):
    """A row or ring as it is read from its other end."""
    return tuple([flipped(piece) for piece in line[::-1]])


def _least_row(row):
    return min(tuple(row), _backwards(row))


def _least_ring(ring):
    readings = []
    for line in (tuple(ring), _backwards(ring)):
        for first in range(len(line)):
            readings.append(line[first:] + line[:first])
    return min(readings)


def _turned_line(line, names):
    return [flipped(piece) if piece[0] in names else piece for piece in line]
