"""One film: its sources, its tracks, the edits that change the tracks, and what is asked of them."""

from filmcuts.limits import LAST_SOURCE
from filmcuts.limits import LAST_TRACK
from filmcuts.limits import MOST_BYTES
from filmcuts.limits import MOST_FRAMES
from filmcuts.limits import MOST_UNDONE
from filmcuts.lists import NoList
from filmcuts.lists import rows_told
from filmcuts.lists import written
from filmcuts.pieces import begun_later
from filmcuts.pieces import behind
from filmcuts.pieces import ended_later
from filmcuts.pieces import fits
from filmcuts.pieces import is_nothing
from filmcuts.pieces import length
from filmcuts.pieces import nothing
from filmcuts.pieces import parted
from filmcuts.pieces import place_at
from filmcuts.pieces import put_between
from filmcuts.pieces import put_over
from filmcuts.pieces import shown_later
from filmcuts.pieces import taken_out
from filmcuts.pieces import tidy
from filmcuts.refusals import CANNOT_BE
from filmcuts.refusals import DONE
from filmcuts.refusals import NO_LIST
from filmcuts.refusals import NO_ROOM
from filmcuts.refusals import NO_SUCH_FRAMES
from filmcuts.refusals import THERE_ALREADY
from filmcuts.refusals import WRONG_NUMBER

# By this number pieces of nothing are told.
TOLD_NOTHING = 255


def is_wrong_place(track, at):
    return track > LAST_TRACK or at > MOST_FRAMES


def is_wrong_span(a, b):
    return b <= a or b > MOST_FRAMES


class Film:
    """Each edit answers DONE, or a refusal's number; a refused one changes nothing, nor does what is only asked."""

    def __init__(self):
        self.sources = {}
        self.tracks = []
        self.undoable = []
        self.redoable = []
        self.begin()

    def begin(self):
        self.sources = {}
        self.tracks = [[] for track in range(LAST_TRACK + 1)]
        # The tracks as they were before each edit, and before each undoing; the last of them behind the others.
        self.undoable = []
        self.redoable = []
        return DONE

    def add_source(self, source, frames):
        if source > LAST_SOURCE or frames == 0 or frames > MOST_FRAMES:
            return WRONG_NUMBER
        if source in self.sources:
            return THERE_ALREADY
        self.sources[source] = frames
        return DONE

    def over(self, track, at, piece):
        if is_wrong_place(track, at):
            return WRONG_NUMBER
        if not self.has_frames(piece):
            return NO_SUCH_FRAMES
        return self.change_track(track, put_over(self.tracks[track], at, piece))

    def between(self, track, at, piece):
        if is_wrong_place(track, at):
            return WRONG_NUMBER
        if not self.has_frames(piece):
            return NO_SUCH_FRAMES
        rows = [put_between(row, at, nothing(piece.frames)) for row in self.tracks]
        rows[track] = put_between(self.tracks[track], at, piece)
        return self.change(rows)

    def lift(self, track, a, b):
        if track > LAST_TRACK or is_wrong_span(a, b):
            return WRONG_NUMBER
        return self.change_track(track, put_over(self.tracks[track], a, nothing(b - a)))

    def out(self, a, b):
        if is_wrong_span(a, b):
            return WRONG_NUMBER
        return self.change([taken_out(row, a, b) for row in self.tracks])

    def cut(self, track, at):
        if is_wrong_place(track, at):
            return WRONG_NUMBER
        return self.change_track(track, parted(self.tracks[track], at))

    def slip(self, track, at, d):
        if is_wrong_place(track, at):
            return WRONG_NUMBER
        row = self.tracks[track]
        place = place_at(row, at)
        if place < 0:
            return CANNOT_BE
        return self.change_pieces(track, place, [shown_later(row[place], d)])

    def roll(self, track, at, d):
        if is_wrong_place(track, at):
            return WRONG_NUMBER
        row = self.tracks[track]
        place = place_at(row, at)
        if place < 1:
            return CANNOT_BE
        changed = [ended_later(row[place - 1], d), begun_later(row[place], d)]
        return self.change_pieces(track, place - 1, changed)

    def slide(self, track, at, d):
        if is_wrong_place(track, at):
            return WRONG_NUMBER
        row = self.tracks[track]
        place = place_at(row, at)
        if place < 1 or place + 1 == len(row):
            return CANNOT_BE
        changed = [ended_later(row[place - 1], d), row[place], begun_later(row[place + 1], d)]
        return self.change_pieces(track, place - 1, changed)

    def longer(self, track, at, d):
        if is_wrong_place(track, at):
            return WRONG_NUMBER
        row = self.tracks[track]
        place = place_at(row, at)
        if place < 0:
            return CANNOT_BE
        return self.change_pieces(track, place, [ended_later(row[place], d)])

    def read(self, t):
        if len(t) > MOST_BYTES:
            return WRONG_NUMBER
        try:
            rows = rows_told(t)
        except NoList:
            return NO_LIST
        for row in rows:
            for piece in row:
                if not self.can_be_read(piece):
                    return NO_SUCH_FRAMES
        return self.change([tidy(row) for row in rows])

    def undo(self):
        if not self.undoable:
            return CANNOT_BE
        self.redoable.append(self.tracks)
        self.tracks = self.undoable.pop()
        return DONE

    def redo(self):
        if not self.redoable:
            return CANNOT_BE
        self.undoable.append(self.tracks)
        self.tracks = self.redoable.pop()
        return DONE

    def seen(self, track, at):
        """1, the source and its frame that are seen there; 0 if it's nothing; or the refusal."""
        if is_wrong_place(track, at):
            return [WRONG_NUMBER]
        row = behind(self.tracks[track], at)
        if not row or is_nothing(row[0]):
            return [0]
        return [1, row[0].source, row[0].first]

    def piece(self, track, k):
        """1 and the track's piece k; 0 if it has none; or the refusal."""
        if track > LAST_TRACK:
            return [WRONG_NUMBER]
        row = self.tracks[track]
        if k >= len(row):
            return [0]
        source = TOLD_NOTHING if is_nothing(row[k]) else row[k].source
        return [1, source, row[k].first, row[k].frames]

    def longest(self):
        return max([length(row) for row in self.tracks])

    def write(self):
        return written(self.tracks)

    def has_frames(self, piece):
        """Whether the piece has frames, and its source has them; so never of nothing, which is no source."""
        if piece.frames <= 0 or piece.first < 0:
            return False
        return piece.first + piece.frames <= self.sources.get(piece.source, 0)

    def can_be_read(self, piece):
        if is_nothing(piece):
            return piece.frames > 0
        return self.has_frames(piece)

    def change_pieces(self, track, place, changed):
        """Put the changed pieces in the stead of as many, from the place on, if they can be."""
        for piece in changed:
            if not self.has_frames(piece):
                return CANNOT_BE
        row = self.tracks[track]
        return self.change_track(track, row[:place] + changed + row[place + len(changed):])

    def change_track(self, track, row):
        rows = list(self.tracks)
        rows[track] = row
        return self.change(rows)

    def change(self, rows):
        """Every edit ends here, so that none is kept in part."""
        for row in rows:
            if not fits(row):
                return NO_ROOM
        self.undoable = (self.undoable + [self.tracks])[-MOST_UNDONE:]
        self.redoable = []
        self.tracks = rows
        return DONE
