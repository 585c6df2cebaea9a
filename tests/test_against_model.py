"""Long rows of calls, drawn from fixed seeds, held against the film told frame by frame."""

import random
import unittest

from helper import BIGGEST, HIGHEST_D, LOWEST_D, MOST, answered, first_difference
from model import Model

NAMES = ["begin", "source", "over", "between", "lift", "out", "cut", "slip", "roll", "slide", "longer", "undo", "redo",
         "seen", "piece", "length", "time", "frame", "write", "read"]
EDITS = ["over", "between", "lift", "out", "cut", "slip", "roll", "slide", "longer", "read"]


class Draw:
    def __init__(self, seed, frames):
        self.random = random.Random(seed)
        self.frames = frames

    def track(self):
        return self.random.choice([8, BIGGEST]) if self.seldom(60) else self.random.choice([0, 0, 0, 1, 7])

    def seldom(self, one_in):
        return self.random.randrange(one_in) == 0

    def at(self):
        if self.seldom(30):
            return self.random.choice([MOST, MOST + 1, BIGGEST])
        return self.random.randrange(self.frames + 10)

    def d(self):
        if self.seldom(30):
            return self.random.choice([LOWEST_D, HIGHEST_D, -1000, 1000])
        return self.random.randrange(-6, 7)

    def piece(self):
        number = self.random.choice([0, 0, 0, 1, 1, 2, 2, 5, 31]) if self.seldom(5) else self.random.randrange(3)
        return [number, self.random.randrange(0, 12), self.random.randrange(0 if self.seldom(9) else 1, 12)]

    def span(self, longest):
        a = self.at()
        if self.seldom(25):
            return [a, self.random.choice([a, max(a - 1, 0), MOST, MOST + 1, BIGGEST])]
        return [a, a + self.random.randrange(1, longest)]

    def list(self):
        """The bytes of a list, now and then with one that's wrong."""
        text = ""
        for track in range(8):
            for _ in range(self.random.choice([0, 1, 3])):
                frames = self.random.randrange(1, 5)
                if self.seldom(3):
                    text += f"- {frames}\n"
                else:
                    text += f"{self.random.randrange(3)} {self.random.randrange(8)} {frames}\n"
            text += ";\n"
        t = list(text.encode("ascii"))
        place = self.random.randrange(len(t))
        fault = self.random.randrange(8)
        if fault == 0:
            t[place] = self.random.choice(b"\n -;0123459")
        elif fault == 1:
            t.pop(place)
        elif fault == 2:
            t.insert(place, self.random.choice(b"\n -;0123459"))
        elif fault == 3:
            t[place] = self.random.randrange(256)
        return [len(t)] + t

    def call(self, names):
        name = self.random.choice(names)
        if name in ("over", "between"):
            return name, [self.track(), self.at()] + self.piece()
        if name == "lift":
            return name, [self.track()] + self.span(8)
        if name == "out":
            return name, self.span(6)
        if name in ("cut", "seen"):
            return name, [self.track(), self.at()]
        if name == "piece":
            return name, [self.track(), self.random.choice([0, 1, 2, 3, 5, 8, 13, 255, 256, BIGGEST])]
        if name in ("undo", "redo", "length", "write"):
            return name, []
        if name == "read":
            return name, self.list()
        return name, [self.track(), self.at(), self.d()]


class AgainstModel(unittest.TestCase):
    def run_both(self, calls, note):
        """All that is answered to the calls is as the model answers; which calls had which first answers."""
        model = Model()
        expected = [model.call(name, given) for name, given in calls]
        parts = answered([[NAMES.index(name)] + given for name, given in calls])
        had = {}
        for k, (name, given) in enumerate(calls):
            self.assertIsNone(first_difference(parts[k], expected[k]), (note, k, name, given))
            had[(name, expected[k][0])] = True
        return had

    def begun(self):
        return [("begin", []), ("source", [0, 30]), ("source", [1, 17]), ("source", [2, 11])]

    def seen_all(self, frames):
        return [("seen", [track, at]) for track in (0, 1, 7) for at in range(frames)]

    def test_short_tracks(self):
        names = ["over", "over", "between", "lift", "out", "out", "cut", "slip", "roll", "slide", "longer",
                 "undo", "redo", "seen", "piece", "length"]
        had = {}
        for seed in range(30):
            draw = Draw(seed, 40)
            calls = self.begun()
            for _ in range(300):
                calls += [draw.call(names), ("write", [])]
            had.update(self.run_both(calls, seed))
        for name in ("slip", "roll", "slide", "longer"):
            for answer in (0, -22, -61):
                self.assertIn((name, answer), had)
        for name, answer in (("seen", 0), ("seen", 1), ("seen", -22), ("piece", 0), ("piece", 1), ("piece", -22)):
            self.assertIn((name, answer), had)

    def test_each_frame_behind_each_edit(self):
        for seed in range(200, 210):
            draw = Draw(seed, 30)
            calls = self.begun()
            for _ in range(40):
                calls += [draw.call(EDITS)] + self.seen_all(45) + [("length", []), ("write", [])]
                calls += [("piece", [track, k]) for track in (0, 1, 7) for k in range(12)]
            self.run_both(calls, seed)

    def test_undone_and_done_again(self):
        had = {}
        for seed in range(300, 330):
            draw = Draw(seed, 30)
            calls = self.begun()
            for _ in range(40):
                name = draw.random.choice(["undo", "redo", "edit"])
                times = draw.random.choice([1, 1, 2, 3, 10, 31, 32, 33, 40])
                for _ in range(times):
                    calls += [draw.call(EDITS) if name == "edit" else (name, []), ("write", [])]
            had.update(self.run_both(calls, seed))
        for name in ("undo", "redo"):
            for answer in (0, -61):
                self.assertIn((name, answer), had)

    def test_lists_read(self):
        had = {}
        for seed in range(400, 420):
            draw = Draw(seed, 20)
            calls = self.begun()
            for _ in range(60):
                calls += [draw.call(["read", "read", "read", "over", "undo", "redo"]), ("write", [])]
            had.update(self.run_both(calls, seed))
        for answer in (0, -2, -71):
            self.assertIn(("read", answer), had)

    def test_tracks_that_fill_up(self):
        names = (["over", "between", "out", "slip", "roll", "slide", "longer", "undo", "redo"] + ["lift"] * 3
                 + ["cut"] * 9)
        ahead = [("over", [track, k * 5, 0, 0, 5]) for track in (0, 1, 7) for k in range(250)]
        had = {}
        for seed in range(100, 104):
            draw = Draw(seed, 1250)
            calls = self.begun() + ahead
            for _ in range(300):
                calls += [draw.call(names), ("write", [])]
            had.update(self.run_both(calls, seed))
        for name in ("over", "between", "lift", "cut", "out"):
            for answer in (0, -22, -28):
                self.assertIn((name, answer), had)


if __name__ == "__main__":
    unittest.main()
