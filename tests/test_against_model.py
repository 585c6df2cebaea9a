"""Long rows of calls, drawn from fixed seeds, held against the edits told frame by frame."""

import random
import unittest

from filmcuts.film import Film
from filmcuts.tracks import answer_all
from helper import BIGGEST, HIGHEST_D, LOWEST_D, MOST, shown
from model import Model

NUMBERS = {"begin": 0, "source": 1, "over": 2, "between": 3, "lift": 4,
           "out": 5, "cut": 6, "slip": 7, "roll": 8, "slide": 9}


class Draw:
    def __init__(self, seed, frames):
        self.random = random.Random(seed)
        self.frames = frames

    def track(self):
        return self.random.choice([8, BIGGEST]) if self.seldom(60) else self.random.choice([0, 0, 0, 1, 7])

    def seldom(self, one_in):
        return self.random.randrange(one_in) == 0

    def at(self):
        if self.seldom(30):
            return self.random.choice([MOST, MOST + 1, BIGGEST])
        return self.random.randrange(self.frames + 10)

    def d(self):
        if self.seldom(30):
            return self.random.choice([LOWEST_D, HIGHEST_D, -1000, 1000])
        return self.random.randrange(-6, 7)

    def piece(self):
        number = self.random.choice([0, 0, 0, 1, 1, 2, 2, 5, 31]) if self.seldom(5) else self.random.randrange(3)
        return [number, self.random.randrange(0, 12), self.random.randrange(0 if self.seldom(9) else 1, 12)]

    def span(self, longest):
        a = self.at()
        if self.seldom(25):
            return [a, self.random.choice([a, max(a - 1, 0), MOST, MOST + 1, BIGGEST])]
        return [a, a + self.random.randrange(1, longest)]

    def call(self, names):
        name = self.random.choice(names)
        if name in ("over", "between"):
            return name, [self.track(), self.at()] + self.piece()
        if name == "lift":
            return name, [self.track()] + self.span(8)
        if name == "out":
            return name, self.span(6)
        if name == "cut":
            return name, [self.track(), self.at()]
        return name, [self.track(), self.at(), self.d()]


class AgainstModel(unittest.TestCase):
    def run_both(self, seed, frames, names, count, ahead=()):
        draw = Draw(seed, frames)
        film = Film()
        model = Model()
        calls = [("begin", []), ("source", [0, 30]), ("source", [1, 17]), ("source", [2, 11])]
        calls += list(ahead) + [draw.call(names) for _ in range(count)]
        seen = {}
        for k, (name, given) in enumerate(calls):
            answer = answer_all(film, [NUMBERS[name]] + given)
            expected = model.call(name, *given)
            self.assertEqual(answer, [1, expected], (seed, k, name, given))
            seen[(name, expected)] = True
            rows = [[shown(piece) for piece in row] for row in film.tracks]
            self.assertEqual(rows, model.shown(), (seed, k, name, given))
        return seen

    def test_short_tracks(self):
        names = ["over", "over", "between", "lift", "out", "out", "cut", "slip", "roll", "slide"]
        seen = {}
        for seed in range(30):
            seen.update(self.run_both(seed, 40, names, 300))
        for name in ("slip", "roll", "slide"):
            for answer in (0, -22, -61):
                self.assertIn((name, answer), seen)

    def test_tracks_that_fill_up(self):
        names = ["over", "between", "out", "slip", "roll", "slide"] + ["lift"] * 3 + ["cut"] * 9
        ahead = [("over", [track, k * 5, 0, 0, 5]) for track in (0, 1, 7) for k in range(250)]
        seen = {}
        for seed in range(100, 104):
            seen.update(self.run_both(seed, 1250, names, 300, ahead))
        for name in ("over", "between", "lift", "cut", "out"):
            for answer in (0, -22, -28):
                self.assertIn((name, answer), seen)


if __name__ == "__main__":
    unittest.main()
