"""What the tests share: calls written by name, and the tracks that they lead to."""

from filmcuts.film import Film
from filmcuts.pieces import NOTHING
from filmcuts.tracks import answer_all, answers

MOST = 16777216
BIGGEST = 4294967295
LOWEST_D = -2147483648
HIGHEST_D = 2147483647

BEGIN = [0]


def source(number, frames):
    return [1, number, frames]


def over(track, at, number, start, frames):
    return [2, track, at, number, start, frames]


def between(track, at, number, start, frames):
    return [3, track, at, number, start, frames]


def lift(track, a, b):
    return [4, track, a, b]


def out(a, b):
    return [5, a, b]


def cut(track, at):
    return [6, track, at]


def slip(track, at, d):
    return [7, track, at, d]


def roll(track, at, d):
    return [8, track, at, d]


def slide(track, at, d):
    return [9, track, at, d]


def flat(calls):
    return [number for call in calls for number in call]


def told(calls):
    """The one number that is answered to each call."""
    given = answers(flat(calls))
    assert given[0::2] == [1] * len(calls), given
    return given[1::2]


def tracks(calls):
    """The tracks behind the calls: (source, first, frames) a piece, ("-", frames) of nothing."""
    film = Film()
    answer_all(film, flat(calls))
    return [[shown(piece) for piece in row] for row in film.tracks]


def shown(piece):
    if piece.source == NOTHING:
        assert piece.first == 0
        return ("-", piece.frames)
    return (piece.source, piece.first, piece.frames)


def pieces_of_one(track, count, frames, number=0):
    """Calls that put count pieces of so many frames on a track, each of its source's beginning."""
    return [over(track, k * frames, number, 0, frames) for k in range(count)]
