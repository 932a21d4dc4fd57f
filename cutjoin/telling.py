"""The text of a yard, as "a -b, c, (d)": its rows, then its rings."""

from cutjoin.errors import BadText, BadYard
from cutjoin.yards import yard_of


def written(yard):
    """The text of a yard, the empty one where it has no piece."""
    rows, rings = yard
    row_texts = [_line_text(row) for row in rows]
    ring_texts = [f"({_line_text(ring)})" for ring in rings]
    return ", ".join([*row_texts, *ring_texts])


def read(text):
    """The yard of a text, its rows and rings in any order; BadText for that of none."""
    if type(text) != str:
        raise BadText("what is to be read is no text")
    lines = text.split(", ") if text != "" else []
    rows = [_pieces_in(line) for line in lines if not _is_ring(line)]
    rings = [_pieces_in(line[1:-1]) for line in lines if _is_ring(line)]
    # What is no piece comes out as none from the splitting, and as no yard here.
    try:
        return yard_of(rows, rings)
    except BadYard as why:
        raise BadText(str(why)) from None


def _line_text(line):
    """The pieces of a row or ring, with a blank between."""
    return " ".join([_piece_text(piece) for piece in line])


def _piece_text(piece):
    name, way = piece
    return name if way == 1 else f"-{name}"


def _is_ring(line):
    """Whether the text of a row or ring is that of a ring."""
    return line.startswith("(") and line.endswith(")")


def _pieces_in(line):
    """What stands with a blank between, as pieces, if it is that."""
    return [_piece_in(word) for word in line.split(" ")]


def _piece_in(word):
    return (word[1:], -1) if word.startswith("-") else (word, 1)
