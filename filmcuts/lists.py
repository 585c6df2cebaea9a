"""Tracks written as a list of bytes, and read from one."""

from filmcuts.limits import LAST_TRACK
from filmcuts.limits import MOST_DIGITS
from filmcuts.pieces import Piece
from filmcuts.pieces import is_nothing
from filmcuts.pieces import nothing

TRACK_END = ";"
SIGNS = "\n -;0123456789"


class NoList(Exception):
    """What is read is not as lists are written."""


def line_of(piece):
    if is_nothing(piece):
        return "- " + str(piece.frames)
    return " ".join([str(number) for number in (piece.source, piece.first, piece.frames)])


def written(rows):
    """The bytes of the list that tells the rows."""
    lines = []
    for row in rows:
        lines.extend([line_of(piece) for piece in row])
        lines.append(TRACK_END)
    text = "\n".join(lines) + "\n"
    return [ord(sign) for sign in text]


def text_of(t):
    """The bytes as a text; each that stands in no list is a sign that stands in none either."""
    signs = {}
    for sign in SIGNS:
        signs[ord(sign)] = sign
    return "".join([signs.get(byte, "?") for byte in t])


def number_told(word):
    if len(word) > MOST_DIGITS or not word.isdigit():
        raise NoList()
    if word.startswith("0") and len(word) > 1:
        raise NoList()
    return int(word)


def piece_told(line):
    words = line.split(" ")
    if len(words) == 2 and words[0] == "-":
        return nothing(number_told(words[1]))
    if len(words) == 3:
        return Piece(number_told(words[0]), number_told(words[1]), number_told(words[2]))
    raise NoList()


def rows_told(t):
    """The rows as the list's bytes tell them: their pieces may lack frames, and nothing lie beside nothing."""
    lines = text_of(t).split("\n")
    # What is behind the last line's end; with something there, that line has no end.
    if lines.pop() != "":
        raise NoList()
    rows = []
    row = []
    for line in lines:
        if line == TRACK_END:
            rows.append(row)
            row = []
        else:
            row.append(piece_told(line))
    if row or len(rows) != LAST_TRACK + 1:
        raise NoList()
    return rows
