"""Points 2 and 3: lift, out and cut."""

import unittest

from helper import (BEGIN, BIGGEST, MOST, between, cut, lift, out, over, pieces_of_one, source, told, tracks)

START = [BEGIN, source(0, 100), source(1, 50), source(31, MOST)]
SPANS = [(0, 0), (5, 5), (6, 5), (MOST, MOST), (0, MOST + 1), (MOST, MOST + 1), (5, BIGGEST),
         (BIGGEST, BIGGEST), (BIGGEST, 0), (BIGGEST, MOST)]
ROW = [over(3, 0, 0, 0, 10), over(3, 10, 0, 10, 10), over(3, 25, 1, 0, 10)]


class Edits(unittest.TestCase):
    def rows(self, *calls):
        calls = START + list(calls)
        self.assertEqual(told(calls), [0] * len(calls))
        return tracks(calls)

    def last(self, ahead, call):
        """What is answered to the call; a refused one must have changed nothing."""
        answer = told(ahead + [call])[-1]
        if answer < 0:
            self.assertEqual(tracks(ahead + [call]), tracks(ahead))
        return answer


class Lift(Edits):
    def lifted(self, a, b):
        rows = self.rows(*ROW, over(4, 0, 0, 0, 50), lift(3, a, b))
        self.assertEqual(rows[4], [(0, 0, 50)])
        return rows[3]

    def test_wrong_numbers(self):
        for a, b in SPANS:
            self.assertEqual(self.last(START + ROW, lift(3, a, b)), -22)
        self.assertEqual(self.last(START + ROW, lift(8, 0, 1)), -22)
        self.assertEqual(self.last(START + ROW, lift(BIGGEST, 0, 1)), -22)
        self.assertEqual(self.last(START + ROW, lift(7, 0, 1)), 0)

    def test_in_the_midst_of_a_piece(self):
        self.assertEqual(self.lifted(2, 5), [(0, 0, 2), ("-", 3), (0, 5, 5), (0, 10, 10), ("-", 5), (1, 0, 10)])

    def test_at_edges(self):
        self.assertEqual(self.lifted(0, 10), [("-", 10), (0, 10, 10), ("-", 5), (1, 0, 10)])
        self.assertEqual(self.lifted(0, 1), [("-", 1), (0, 1, 9), (0, 10, 10), ("-", 5), (1, 0, 10)])
        self.assertEqual(self.lifted(9, 10), [(0, 0, 9), ("-", 1), (0, 10, 10), ("-", 5), (1, 0, 10)])

    def test_over_an_edge(self):
        self.assertEqual(self.lifted(8, 12), [(0, 0, 8), ("-", 4), (0, 12, 8), ("-", 5), (1, 0, 10)])

    def test_nothing_beside_nothing_is_one(self):
        self.assertEqual(self.lifted(10, 20), [(0, 0, 10), ("-", 15), (1, 0, 10)])
        self.assertEqual(self.lifted(15, 20), [(0, 0, 10), (0, 10, 5), ("-", 10), (1, 0, 10)])
        self.assertEqual(self.lifted(25, 26), [(0, 0, 10), (0, 10, 10), ("-", 6), (1, 1, 9)])
        self.assertEqual(self.lifted(18, 27), [(0, 0, 10), (0, 10, 8), ("-", 9), (1, 2, 8)])

    def test_what_was_nothing(self):
        for a, b in ((20, 25), (21, 22), (20, 21), (24, 25)):
            self.assertEqual(self.lifted(a, b), [(0, 0, 10), (0, 10, 10), ("-", 5), (1, 0, 10)])

    def test_at_the_end_there_is_no_nothing(self):
        self.assertEqual(self.lifted(34, 35), [(0, 0, 10), (0, 10, 10), ("-", 5), (1, 0, 9)])
        self.assertEqual(self.lifted(25, 35), [(0, 0, 10), (0, 10, 10)])
        self.assertEqual(self.lifted(22, MOST), [(0, 0, 10), (0, 10, 10)])
        self.assertEqual(self.lifted(5, 400), [(0, 0, 5)])
        self.assertEqual(self.lifted(0, MOST), [])

    def test_behind_the_end(self):
        for a in (35, 36, MOST - 1):
            self.assertEqual(self.lifted(a, MOST), [(0, 0, 10), (0, 10, 10), ("-", 5), (1, 0, 10)])
        self.assertEqual(self.rows(lift(0, 0, MOST), lift(7, 5, 6)), [[]] * 8)

    def test_too_many_pieces(self):
        full = START + pieces_of_one(0, 256, 3)
        asked = {(0, 3): 0, (0, 1): -28, (1, 2): -28, (2, 3): -28, (2, 4): -28, (1, 8): 0, (767, 768): 0,
                 (766, 767): -28, (767, 900): 0, (768, 769): 0}
        for (a, b), answer in asked.items():
            self.assertEqual(self.last(full, lift(0, a, b)), answer, (a, b))
        self.assertEqual(self.last(full, lift(1, 1, 2)), 0)
        less = START + pieces_of_one(0, 255, 3)
        self.assertEqual([self.last(less, lift(0, a, b)) for a, b in ((0, 1), (1, 2), (2, 3), (2, 4))], [0, -28, 0, 0])

    def test_wrong_number_is_named_ahead_of_too_many(self):
        full = START + pieces_of_one(0, 256, 3)
        self.assertEqual([told(full + [lift(*given)])[-1] for given in ((8, 1, 2), (0, 2, 2), (0, 1, MOST + 1))],
                         [-22, -22, -22])


class Out(Edits):
    def test_wrong_numbers(self):
        for a, b in SPANS:
            self.assertEqual(self.last(START + ROW, out(a, b)), -22)

    def test_one_piece_becomes_two(self):
        self.assertEqual(self.rows(over(0, 0, 0, 0, 10), out(3, 5))[0], [(0, 0, 3), (0, 5, 5)])

    def test_all_tracks_at_once(self):
        ahead = [over(0, 0, 0, 0, 9), over(1, 0, 0, 0, 4), over(1, 4, 1, 0, 4), over(2, 0, 0, 0, 4),
                 over(3, 6, 0, 0, 4), over(4, 5, 0, 0, 9), over(5, 0, 0, 0, 5), over(6, 4, 0, 0, 2),
                 over(7, 0, 0, 0, 2), over(7, 6, 1, 0, 2)]
        self.assertEqual(self.rows(*ahead, out(4, 6)), [
            [(0, 0, 4), (0, 6, 3)],
            [(0, 0, 4), (1, 2, 2)],
            [(0, 0, 4)],
            [("-", 4), (0, 0, 4)],
            [("-", 4), (0, 1, 8)],
            [(0, 0, 4)],
            [],
            [(0, 0, 2), ("-", 2), (1, 0, 2)],
        ])

    def test_edges(self):
        self.assertEqual(self.rows(*ROW, out(0, 10))[3], [(0, 10, 10), ("-", 5), (1, 0, 10)])
        self.assertEqual(self.rows(*ROW, out(10, 20))[3], [(0, 0, 10), ("-", 5), (1, 0, 10)])
        self.assertEqual(self.rows(*ROW, out(20, 25))[3], [(0, 0, 10), (0, 10, 10), (1, 0, 10)])
        self.assertEqual(self.rows(*ROW, out(5, 15))[3], [(0, 0, 5), (0, 15, 5), ("-", 5), (1, 0, 10)])

    def test_nothing_that_comes_together_is_one(self):
        self.assertEqual(self.rows(over(0, 3, 0, 0, 4), over(0, 9, 1, 0, 1), out(3, 7))[0], [("-", 5), (1, 0, 1)])
        self.assertEqual(self.rows(over(0, 3, 0, 0, 4), over(0, 9, 1, 0, 1), out(2, 8))[0], [("-", 3), (1, 0, 1)])
        self.assertEqual(self.rows(over(0, 9, 1, 0, 1), out(2, 8))[0], [("-", 3), (1, 0, 1)])

    def test_no_nothing_is_left_at_the_end(self):
        self.assertEqual(self.rows(over(0, 3, 0, 0, 4), out(3, 7)), [[]] * 8)
        self.assertEqual(self.rows(*ROW, out(23, MOST))[3], [(0, 0, 10), (0, 10, 10)])

    def test_behind_the_end_and_without_pieces(self):
        ahead = self.rows(*ROW)
        for a, b in ((35, 36), (36, 40), (MOST - 1, MOST)):
            self.assertEqual(self.rows(*ROW, out(a, b)), ahead)
        self.assertEqual(self.rows(out(0, MOST)), [[]] * 8)
        self.assertEqual(self.rows(*ROW, out(0, MOST)), [[]] * 8)

    def test_too_many_pieces_on_any_track(self):
        for track in (0, 4, 7):
            full = START + pieces_of_one(track, 256, 3)
            asked = {(0, 1): 0, (1, 2): -28, (2, 3): 0, (2, 4): 0, (1, 5): 0, (766, 767): -28, (767, 900): 0}
            for (a, b), answer in asked.items():
                self.assertEqual(self.last(full, out(a, b)), answer, (a, b))
            less = START + pieces_of_one(track, 255, 3)
            self.assertEqual(self.last(less, out(1, 2)), 0)
            self.assertEqual(len(tracks(less + [out(1, 2)])[track]), 256)

    def test_refused_on_one_track_changes_no_other(self):
        full = START + [over(0, 0, 1, 0, 50)] + pieces_of_one(4, 256, 3) + [over(7, 0, 1, 0, 50)]
        self.assertEqual(self.last(full, out(1, 2)), -28)

    def test_wrong_number_is_named_ahead_of_too_many(self):
        full = START + pieces_of_one(0, 256, 3)
        self.assertEqual([told(full + [out(*given)])[-1] for given in ((2, 2), (1, MOST + 1))], [-22, -22])

    def test_put_between_and_taken_out_again(self):
        ahead = ROW + [over(5, 10, 1, 0, 10)]
        for at in (0, 10, 20, 22, 25, 35, 40):
            self.assertEqual(self.rows(*ahead, between(3, at, 1, 0, 7), out(at, at + 7)), self.rows(*ahead))
        self.assertEqual(self.rows(*ROW, between(3, 4, 1, 0, 7), out(4, 11))[3],
                         [(0, 0, 4), (0, 4, 6), (0, 10, 10), ("-", 5), (1, 0, 10)])


class Cut(Edits):
    def test_wrong_numbers(self):
        for track, at in ((8, 0), (BIGGEST, 0), (0, MOST + 1), (0, BIGGEST), (8, MOST + 1)):
            self.assertEqual(self.last(START + ROW, cut(track, at)), -22)
        for track, at in ((7, 0), (0, MOST), (3, MOST)):
            self.assertEqual(self.last(START + ROW, cut(track, at)), 0)

    def test_in_the_midst(self):
        self.assertEqual(self.rows(*ROW, cut(3, 4))[3], [(0, 0, 4), (0, 4, 6), (0, 10, 10), ("-", 5), (1, 0, 10)])
        self.assertEqual(self.rows(*ROW, cut(3, 1))[3][:2], [(0, 0, 1), (0, 1, 9)])
        self.assertEqual(self.rows(*ROW, cut(3, 34))[3][3:], [(1, 0, 9), (1, 9, 1)])

    def test_nothing_changes(self):
        ahead = self.rows(*ROW)
        for at in (0, 10, 20, 21, 24, 25, 35, 36, MOST):
            self.assertEqual(self.rows(*ROW, cut(3, at)), ahead)
        self.assertEqual(self.rows(cut(0, 0), cut(7, 5)), [[]] * 8)

    def test_other_tracks_stay(self):
        rows = self.rows(over(0, 0, 0, 0, 9), over(1, 0, 0, 0, 9), over(2, 0, 0, 0, 9), cut(1, 4))
        self.assertEqual(rows[:3], [[(0, 0, 9)], [(0, 0, 4), (0, 4, 5)], [(0, 0, 9)]])

    def test_too_many_pieces(self):
        full = START + pieces_of_one(0, 256, 3)
        asked = {0: 0, 1: -28, 3: 0, 767: -28, 768: 0, MOST: 0, MOST + 1: -22}
        for at, answer in asked.items():
            self.assertEqual(self.last(full, cut(0, at)), answer, at)
        self.assertEqual(told(full + [cut(8, 1)])[-1], -22)
        less = START + pieces_of_one(0, 255, 3)
        self.assertEqual(told(less + [cut(0, 1), cut(0, 2)])[-2:], [0, -28])

    def test_one_long_piece_into_256(self):
        calls = START + [over(0, 0, 31, 0, MOST)] + [cut(0, k) for k in range(1, 256)]
        self.assertEqual(told(calls), [0] * len(calls))
        self.assertEqual(tracks(calls)[0], [(31, k, 1) for k in range(255)] + [(31, 255, MOST - 255)])
        self.assertEqual(self.last(calls, cut(0, 256)), -28)


if __name__ == "__main__":
    unittest.main()
