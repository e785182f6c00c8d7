"""Fractions, spots and cuttings written as texts, and read again: just what is so written."""

from likeshards.errors import NoText
from likeshards.fields import is_field, look_field
from likeshards.fracs import divisor
from likeshards.pieces import MOST_PIECES, is_piece

MOST_FIGURES = 30


def show_frac(part):
    """The text of a fraction."""
    top, bottom = part
    if bottom == 1:
        return str(top)
    return f"{top}/{bottom}"


def show_spot(spot):
    """The text of a spot."""
    return f"{show_frac(spot[0])},{show_frac(spot[1])}"


def show_corners(word, corners):
    """The row of a field or a piece."""
    return " ".join([word, *[show_spot(corner) for corner in corners]])


def show_cutting(field, pieces):
    """The text of a field and a list of pieces; else NoField."""
    look_field(field)
    return "\n".join([show_corners("field", field), *[show_corners("piece", piece) for piece in pieces]])


def number_in(word):
    """The whole number from 0 on that is written so; None where none is."""
    if not 1 <= len(word) <= MOST_FIGURES or not word.isascii() or not word.isdigit():
        return None
    if word[0] == "0" and word != "0":
        return None
    return int(word)


def signed_in(word):
    """The whole number, of either sign, that is written so; None where none is."""
    if not word.startswith("-"):
        return number_in(word)
    number = number_in(word[1:])
    # A nought is written without a sign.
    if number is None or number == 0:
        return None
    return -number


def frac_in(word):
    """The fraction that is written so; None where none is."""
    over, slash, under = word.partition("/")
    top = signed_in(over)
    # A bottom of 1 isn't written, so that it stands here for one that lacks.
    bottom = number_in(under) if slash == "/" else 1
    if top is None or bottom is None or divisor(top, bottom) != 1:
        return None
    if slash == "/" and bottom < 2:
        return None
    return (top, bottom)


def spot_in(word):
    """The spot that is written so; None where none is."""
    left, comma, right = word.partition(",")
    x = frac_in(left)
    y = frac_in(right)
    if x is None or y is None:
        return None
    return (x, y)


def corners_in_row(word, row):
    """The corners that are written behind the word in a row; None where it isn't so written."""
    words = row.split(" ")
    corners = [spot_in(written) for written in words[1:]]
    if words[0] != word or any(corner is None for corner in corners):
        return None
    return tuple(corners)


def read_frac(text):
    """The fraction that is written so; of anything else NoText with at 0."""
    part = frac_in(text) if isinstance(text, str) else None
    if part is None:
        raise NoText(0)
    return part


def read_spot(text):
    """The spot that is written so; of anything else NoText with at 0."""
    spot = spot_in(text) if isinstance(text, str) else None
    if spot is None:
        raise NoText(0)
    return spot


def read_piece(rows, at):
    """The piece that is written in row at; else NoText."""
    # Where the text ends ahead of the first piece, its row is the wrong one.
    piece = corners_in_row("piece", rows[at]) if at < len(rows) else None
    if at > MOST_PIECES or not is_piece(piece):
        raise NoText(at)
    return piece


def read_cutting(text):
    """The field and the pieces that are written so, a cutting or not; of anything else NoText."""
    if not isinstance(text, str):
        raise NoText(0)
    rows = text.split("\n")
    field = corners_in_row("field", rows[0])
    if not is_field(field):
        raise NoText(0)
    return (field, [read_piece(rows, at) for at in range(1, max(2, len(rows)))])
