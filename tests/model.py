"""The same film told frame by frame, to be held against the program.

A track is a list of cells: None for nothing, or (source, its frame, whether a piece begins here).
It is far too slow for long tracks; at is therefore small in what's asked of it, or above the most.
"""

import re

MOST = 16777216
MOST_PIECES = 256
MOST_UNDONE = 32

NUMBER = b"(?:0|[1-9][0-9]{0,7})"
LINE = b"(?:" + NUMBER + b" " + NUMBER + b" " + NUMBER + b"|- " + NUMBER + b")\n"
LIST = re.compile(b"(?:(?:" + LINE + b")*;\n){8}")


class Model:
    """Each call gives back the list of numbers that are answered."""

    def __init__(self):
        self.begin()

    def call(self, name, given):
        answer = getattr(self, name)(*given)
        return answer if isinstance(answer, list) else [answer]

    def begin(self):
        self.sources = {}
        # The tracks at each time that can still be come to, and which of these is now.
        self.times = [[[] for _ in range(8)]]
        self.now = 0
        return 0

    @property
    def tracks(self):
        return self.times[self.now]

    def source(self, number, frames):
        if number > 31 or not 1 <= frames <= MOST:
            return -22
        if number in self.sources:
            return -17
        self.sources[number] = frames
        return 0

    def cells(self, number, start, frames):
        """The cells of a new piece, or None where there are no such frames."""
        if number not in self.sources or frames == 0:
            return None
        if start + frames > self.sources[number]:
            return None
        return [(number, start + k, k == 0) for k in range(frames)]

    def over(self, track, at, number, start, frames):
        if track > 7 or at > MOST:
            return -22
        new = self.cells(number, start, frames)
        if new is None:
            return -2
        if at + frames > MOST:
            return -28
        old = begun(self.tracks[track], at + frames)
        return self.store({track: padded(old, at) + new + old[at + frames:]})

    def between(self, track, at, number, start, frames):
        if track > 7 or at > MOST:
            return -22
        new = self.cells(number, start, frames)
        if new is None:
            return -2
        if at + frames > MOST:
            return -28
        changed = {}
        for k in range(8):
            old = begun(self.tracks[k], at)
            put = new if k == track else [None] * frames
            changed[k] = padded(old, at) + put + old[at:]
        return self.store(changed)

    def lift(self, track, a, b):
        if track > 7 or b <= a or b > MOST:
            return -22
        old = begun(self.tracks[track], b)
        return self.store({track: [None if a <= k < b else old[k] for k in range(len(old))]})

    def out(self, a, b):
        if b <= a or b > MOST:
            return -22
        changed = {}
        for k in range(8):
            old = begun(self.tracks[k], b)
            changed[k] = [old[n] for n in range(len(old)) if not a <= n < b]
        return self.store(changed)

    def cut(self, track, at):
        if track > 7 or at > MOST:
            return -22
        return self.store({track: begun(self.tracks[track], at)})

    def slip(self, track, at, d):
        if track > 7 or at > MOST:
            return -22
        return self.lay(track, at, d, [0], lambda runs: [moved(runs[0], d)])

    def roll(self, track, at, d):
        if track > 7 or at > MOST:
            return -22
        return self.lay(track, at, d, [-1, 0], lambda runs: [ended(runs[0], d), begun_by(runs[1], d)])

    def slide(self, track, at, d):
        if track > 7 or at > MOST:
            return -22
        return self.lay(track, at, d, [-1, 0, 1],
                        lambda runs: [ended(runs[0], d), runs[1], begun_by(runs[2], d)])

    def longer(self, track, at, d):
        if track > 7 or at > MOST:
            return -22
        return self.lay(track, at, d, [0], lambda runs: [ended(runs[0], d)])

    def lay(self, track, at, d, steps, change):
        """Change the pieces that lie so many steps from the one at the frame."""
        runs = runs_of(self.tracks[track])
        here = [k for k, run in enumerate(runs) if run[0] <= at < run[0] + len(run[1])]
        places = [here[0] + step for step in steps] if here else [-1]
        if min(places) < 0 or max(places) >= len(runs):
            return -61
        taken = [runs[place][1] for place in places]
        if any(run[0] is None for run in taken):
            return -61
        if abs(d) > 100000:  # no source here has so many
            return -61
        new = change(taken)
        for run in new:
            if not run or any(not 0 <= cell[1] < self.sources[cell[0]] for cell in run):
                return -61
        start = runs[places[0]][0]
        cells = [cell for run in new for cell in run]
        old = self.tracks[track]
        return self.store({track: old[:start] + cells + old[start + sum(len(run) for run in taken):]})

    def store(self, changed):
        changed = {k: stripped(row) for k, row in changed.items()}
        for row in changed.values():
            if len(row) > MOST or len(runs_of(row)) > MOST_PIECES:
                return -28
        new = [changed.get(k, row) for k, row in enumerate(self.tracks)]
        self.times = (self.times[:self.now + 1] + [new])[-MOST_UNDONE - 1:]
        self.now = len(self.times) - 1
        return 0

    def undo(self):
        if self.now == 0:
            return -61
        self.now -= 1
        return 0

    def redo(self):
        if self.now + 1 == len(self.times):
            return -61
        self.now += 1
        return 0

    def seen(self, track, at):
        if track > 7 or at > MOST:
            return -22
        cell = self.tracks[track][at] if at < len(self.tracks[track]) else None
        return 0 if cell is None else [1, cell[0], cell[1]]

    def piece(self, track, k):
        if track > 7:
            return -22
        runs = runs_of(self.tracks[track])
        if k >= len(runs):
            return 0
        run = runs[k][1]
        return [1, 255, 0, len(run)] if run[0] is None else [1, run[0][0], run[0][1], len(run)]

    def length(self):
        return max(len(row) for row in self.tracks)

    def write(self):
        text = ""
        for row in self.tracks:
            for _, run in runs_of(row):
                if run[0] is None:
                    text += f"- {len(run)}\n"
                else:
                    text += f"{run[0][0]} {run[0][1]} {len(run)}\n"
            text += ";\n"
        return [0] + list(text.encode("ascii"))

    def read(self, *given):
        t = bytes(given[1:])
        if LIST.fullmatch(t) is None:
            return -71
        rows = []
        for part in t.split(b";\n")[:8]:
            row = []
            for line in part.splitlines():
                words = line.split()
                frames = int(words[-1])
                new = [None] * frames if words[0] == b"-" else self.cells(int(words[0]), int(words[1]), frames)
                if not new:
                    return -2
                row += new
            rows.append(row)
        return self.store(dict(enumerate(rows)))


def padded(row, at):
    return row[:at] + [None] * (at - len(row))


def begun(row, at):
    """The row with an edge before the frame at."""
    row = list(row)
    if at < len(row) and row[at] is not None:
        row[at] = (row[at][0], row[at][1], True)
    return row


def stripped(row):
    row = list(row)
    while row and row[-1] is None:
        row.pop()
    return row


def runs_of(row):
    """Where each piece begins, and its cells."""
    runs = []
    for at, cell in enumerate(row):
        goes_on = at > 0 and (row[at - 1] is None if cell is None else not cell[2])
        if goes_on:
            runs[-1][1].append(cell)
        else:
            runs.append((at, [cell]))
    return runs


def moved(run, d):
    return [(number, frame + d, first) for number, frame, first in run]


def ended(run, d):
    number, frame, _ = run[0]
    return [(number, frame + k, k == 0) for k in range(len(run) + d)]


def begun_by(run, d):
    number, frame, _ = run[0]
    return [(number, frame + d + k, k == 0) for k in range(len(run) - d)]
