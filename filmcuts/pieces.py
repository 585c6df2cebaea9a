"""Pieces, and the rows of them that tracks are.

No function here changes a piece or a row that it is handed: each gives back a new row. So a row that was
refused leaves nothing behind, and rows of different times may share their pieces.
"""

from filmcuts.limits import MOST_FRAMES
from filmcuts.limits import MOST_PIECES

# Below 0, so that no number that's handed in for a source is taken for it.
NOTHING = -1


class Piece:
    """So many frames of a source, from its frame first on; or so many frames of nothing."""

    def __init__(self, source, first, frames):
        self.source = source
        self.first = first
        self.frames = frames


def nothing(frames):
    return Piece(NOTHING, 0, frames)


def is_nothing(piece):
    return piece.source == NOTHING


def shown_later(piece, d):
    """The piece, as long as before, with its source's frames d further on."""
    return Piece(piece.source, piece.first + d, piece.frames)


def ended_later(piece, d):
    """The piece with d frames more at its end."""
    return Piece(piece.source, piece.first, piece.frames + d)


def begun_later(piece, d):
    """The piece with d frames fewer at its beginning; what is left of it shows what it did."""
    if is_nothing(piece):
        return nothing(piece.frames - d)
    return Piece(piece.source, piece.first + d, piece.frames - d)


def length(row):
    """How many frames the row has."""
    return sum([piece.frames for piece in row])


def fits(row):
    """Whether a track may be so long and have so many pieces."""
    return len(row) <= MOST_PIECES and length(row) <= MOST_FRAMES


def place_at(row, at):
    """Which piece of the row, from 0, has the frame at; -1 behind the row's end."""
    end = 0
    for place, piece in enumerate(row):
        end += piece.frames
        if at < end:
            return place
    return -1


def before(row, at):
    """The pieces of the frames before at; fewer frames than at, where the row is shorter."""
    kept = []
    left = at
    for piece in row:
        if left < piece.frames:
            # May have no frames: tidy leaves it out.
            kept.append(Piece(piece.source, piece.first, left))
            break
        kept.append(piece)
        left -= piece.frames
    return kept


def behind(row, at):
    """The pieces of the frames from at on."""
    kept = []
    left = at
    for piece in row:
        if left < piece.frames:
            kept.append(begun_later(piece, left))
            left = 0
        else:
            left -= piece.frames
    return kept


def tidy(row):
    """The row as a track holds it: nothing beside nothing is one piece, and none is at the end or has no frames."""
    kept = []
    for piece in row:
        if piece.frames == 0:
            continue
        if kept and is_nothing(piece) and is_nothing(kept[-1]):
            kept[-1] = nothing(kept[-1].frames + piece.frames)
        else:
            kept.append(piece)
    if kept and is_nothing(kept[-1]):
        kept.pop()
    return kept


def filled(row, at):
    """The frames before at, with nothing where the row is shorter."""
    return before(row, at) + [nothing(max(at - length(row), 0))]


def put_over(row, at, piece):
    """The row with the piece from at on, instead of what was there."""
    return tidy(filled(row, at) + [piece] + behind(row, at + piece.frames))


def put_between(row, at, piece):
    """The row with the piece from at on, and what was there behind it."""
    return tidy(filled(row, at) + [piece] + behind(row, at))


def taken_out(row, a, b):
    """The row without the frames from a on, before b."""
    return tidy(before(row, a) + behind(row, b))


def parted(row, at):
    """The row with an edge before the frame at; tidy makes parted nothing one again."""
    return tidy(before(row, at) + behind(row, at))
