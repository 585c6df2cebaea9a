"""One film: its sources, its tracks, and the edits that change the tracks."""

from filmcuts.pieces import MOST_FRAMES
from filmcuts.pieces import begun_later
from filmcuts.pieces import ended_later
from filmcuts.pieces import fits
from filmcuts.pieces import nothing
from filmcuts.pieces import parted
from filmcuts.pieces import place_at
from filmcuts.pieces import put_between
from filmcuts.pieces import put_over
from filmcuts.pieces import shown_later
from filmcuts.pieces import taken_out

LAST_SOURCE = 31
LAST_TRACK = 7

DONE = 0
NO_SUCH_FRAMES = -2
THERE_ALREADY = -17
WRONG_NUMBER = -22
NO_ROOM = -28
CANNOT_BE = -61


def is_wrong_place(track, at):
    return track > LAST_TRACK or at > MOST_FRAMES


def is_wrong_span(a, b):
    return b <= a or b > MOST_FRAMES


class Film:
    """Each edit answers DONE, or a refusal's number; a refused one changes nothing."""

    def __init__(self):
        self.sources = {}
        self.tracks = []
        self.begin()

    def begin(self):
        self.sources = {}
        self.tracks = [[] for track in range(LAST_TRACK + 1)]
        return DONE

    def add_source(self, source, frames):
        if source > LAST_SOURCE or frames == 0 or frames > MOST_FRAMES:
            return WRONG_NUMBER
        if source in self.sources:
            return THERE_ALREADY
        self.sources[source] = frames
        return DONE

    def over(self, track, at, piece):
        if is_wrong_place(track, at):
            return WRONG_NUMBER
        if not self.has_frames(piece):
            return NO_SUCH_FRAMES
        return self.change_track(track, put_over(self.tracks[track], at, piece))

    def between(self, track, at, piece):
        if is_wrong_place(track, at):
            return WRONG_NUMBER
        if not self.has_frames(piece):
            return NO_SUCH_FRAMES
        rows = [put_between(row, at, nothing(piece.frames)) for row in self.tracks]
        rows[track] = put_between(self.tracks[track], at, piece)
        return self.change(rows)

    def lift(self, track, a, b):
        if track > LAST_TRACK or is_wrong_span(a, b):
            return WRONG_NUMBER
        return self.change_track(track, put_over(self.tracks[track], a, nothing(b - a)))

    def out(self, a, b):
        if is_wrong_span(a, b):
            return WRONG_NUMBER
        return self.change([taken_out(row, a, b) for row in self.tracks])

    def cut(self, track, at):
        if is_wrong_place(track, at):
            return WRONG_NUMBER
        return self.change_track(track, parted(self.tracks[track], at))

    def slip(self, track, at, d):
        if is_wrong_place(track, at):
            return WRONG_NUMBER
        row = self.tracks[track]
        place = place_at(row, at)
        if place < 0:
            return CANNOT_BE
        return self.change_pieces(track, place, [shown_later(row[place], d)])

    def roll(self, track, at, d):
        if is_wrong_place(track, at):
            return WRONG_NUMBER
        row = self.tracks[track]
        place = place_at(row, at)
        if place < 1:
            return CANNOT_BE
        changed = [ended_later(row[place - 1], d), begun_later(row[place], d)]
        return self.change_pieces(track, place - 1, changed)

    def slide(self, track, at, d):
        if is_wrong_place(track, at):
            return WRONG_NUMBER
        row = self.tracks[track]
        place = place_at(row, at)
        if place < 1 or place + 1 == len(row):
            return CANNOT_BE
        changed = [ended_later(row[place - 1], d), row[place], begun_later(row[place + 1], d)]
        return self.change_pieces(track, place - 1, changed)

    def has_frames(self, piece):
        """Whether the piece has frames, and its source has them; so never of nothing, which is no source."""
        if piece.frames <= 0 or piece.first < 0:
            return False
        return piece.first + piece.frames <= self.sources.get(piece.source, 0)

    def change_pieces(self, track, place, changed):
        """Put the changed pieces in the stead of as many, from the place on, if they can be."""
        for piece in changed:
            if not self.has_frames(piece):
                return CANNOT_BE
        row = self.tracks[track]
        return self.change_track(track, row[:place] + changed + row[place + len(changed):])

    def change_track(self, track, row):
        rows = list(self.tracks)
        rows[track] = row
        return self.change(rows)

    def change(self, rows):
        """Every edit ends here, so that none is kept in part."""
        for row in rows:
            if not fits(row):
                return NO_ROOM
        self.tracks = rows
        return DONE
