"""What the tests share: calls written by name, and what is answered to them."""

from filmcuts.tracks import answers

MOST = 16777216
BIGGEST = 4294967295
LOWEST_D = -2147483648
HIGHEST_D = 2147483647

BEGIN = [0]
UNDO = [11]
REDO = [12]
LENGTH = [15]
WRITE = [18]


def source(number, frames):
    return [1, number, frames]


def over(track, at, number, start, frames):
    return [2, track, at, number, start, frames]


def between(track, at, number, start, frames):
    return [3, track, at, number, start, frames]


def lift(track, a, b):
    return [4, track, a, b]


def out(a, b):
    return [5, a, b]


def cut(track, at):
    return [6, track, at]


def slip(track, at, d):
    return [7, track, at, d]


def roll(track, at, d):
    return [8, track, at, d]


def slide(track, at, d):
    return [9, track, at, d]


def longer(track, at, d):
    return [10, track, at, d]


def seen(track, at):
    return [13, track, at]


def piece(track, k):
    return [14, track, k]


def time(kind, number):
    return [16, kind, number]


def frame(kind, h, m, sec, f):
    return [17, kind, h, m, sec, f]


def read(t):
    return [19, len(t)] + list(t)


def flat(calls):
    return [number for call in calls for number in call]


def answered(calls):
    """The numbers that are answered to each call."""
    given = answers(flat(calls))
    parts = []
    place = 0
    while place < len(given):
        assert given[place] > 0, given
        end = place + 1 + given[place]
        parts.append(given[place + 1:end])
        place = end
    assert place == len(given) and len(parts) == len(calls), given
    return parts


def told(calls):
    """The one number that is answered to each call."""
    parts = answered(calls)
    assert all(len(part) == 1 for part in parts), parts
    return [part[0] for part in parts]


def asked(calls, questions):
    """What is answered to the questions behind the calls."""
    return answered(calls + questions)[len(calls):]


def listed(calls):
    """The list that is written behind the calls, as a text."""
    answer = asked(calls, [WRITE])[0]
    assert answer[0] == 0, answer
    return bytes(answer[1:]).decode("ascii")


def tracks(calls):
    """The tracks behind the calls: (source, first, frames) a piece, ("-", frames) of nothing."""
    parts = listed(calls).split(";\n")
    assert parts.pop() == ""
    return [[shown(line.split(" ")) for line in part.splitlines()] for part in parts]


def shown(words):
    return tuple(word if word == "-" else int(word) for word in words)


def seen_of(calls, track, frames):
    """What's seen at the track's first frames: (source, its frame), or None for nothing."""
    parts = asked(calls, [seen(track, at) for at in range(frames)])
    assert all(len(part) == (3 if part[0] == 1 else 1) and part[0] in (0, 1) for part in parts), parts
    return [tuple(part[1:]) or None for part in parts]


def pieces_of_one(track, count, frames, number=0):
    """Calls that put count pieces of so many frames on a track, each of its source's beginning."""
    return [over(track, k * frames, number, 0, frames) for k in range(count)]


def first_difference(given, expected):
    """Where two lists differ first, and how; None if nowhere. For lists too long to be shown whole."""
    for place, (one, other) in enumerate(zip(given, expected)):
        if one != other:
            return place, one, other
    return None if len(given) == len(expected) else (len(given), len(expected))
