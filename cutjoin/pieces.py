"""Names, pieces and their ends, and places, which are made of two ends."""

NOTHING = ()
TAIL = 0
HEAD = 1
LONGEST_NAME = 8


def is_name(thing):
    """Whether anything is a name: a text of 1 to 8 small letters a to z."""
    # Here and below the very kind is asked for: True would pass as 1, and a
    # kind derived from a builtin one may compare as it likes, or be changed.
    if type(thing) != str or not 1 <= len(thing) <= LONGEST_NAME:
        return False
    return all(["a" <= letter <= "z" for letter in thing])


def is_piece(thing):
    """Whether anything is a piece: a tuple of a name and a way, 1 or -1."""
    return _is_name_with(thing, (1, -1))


def is_end(thing):
    """Whether anything is an end: a tuple of a name and a side, tail or head."""
    return _is_name_with(thing, (TAIL, HEAD))


def is_nothing(thing):
    """Whether anything is the nothing that stands beside a free end."""
    return type(thing) == tuple and len(thing) == 0


def _is_name_with(thing, numbers):
    """Whether anything is a tuple of a name and one of some whole numbers."""
    if type(thing) != tuple or len(thing) != 2:
        return False
    name, number = thing
    return is_name(name) and type(number) == int and number in numbers


def begins(piece):
    """The end with which a piece begins, as it lies."""
    name, way = piece
    return (name, TAIL) if way == 1 else (name, HEAD)


def ends(piece):
    """The end with which a piece ends, as it lies."""
    return other_end(begins(piece))


def other_end(end):
    """The other end of the piece that has an end."""
    name, side = end
    return (name, 1 - side)


def piece_from(end):
    """The piece of an end, lying so that it begins with that end."""
    name, side = end
    return (name, 1) if side == TAIL else (name, -1)


def flipped(piece):
    """A piece lying its other way."""
    name, way = piece
    return (name, -way)


def place_of(one, other):
    """The place of two ends, or of nothing and an end, the lesser one first."""
    return (one, other) if one <= other else (other, one)
