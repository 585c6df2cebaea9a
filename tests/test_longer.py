"""Point 3: longer."""

import unittest

from helper import (BEGIN, BIGGEST, HIGHEST_D, LENGTH, LOWEST_D, MOST, asked, cut, lift, longer, over, pieces_of_one,
                    seen_of, source, told, tracks)

START = [BEGIN, source(0, 30), source(1, 20), source(2, 25), source(31, MOST)]
# Frames 0 to 9, 10 to 19 and 20 to 29, with 5 frames of each source before what's shown.
THREE = [over(3, 0, 0, 5, 10), over(3, 10, 1, 5, 10), over(3, 20, 2, 5, 10)]
OTHERS = [over(0, 0, 2, 0, 25), over(2, 12, 0, 0, 9), over(4, 0, 1, 0, 11), over(7, 15, 0, 3, 4)]


class Longer(unittest.TestCase):
    def answer(self, ahead, call):
        answer = told(START + ahead + [call])[-1]
        if answer < 0:
            self.assertEqual(tracks(START + ahead + [call]), tracks(START + ahead))
        return answer

    def row(self, ahead, call, track=3):
        self.assertEqual(self.answer(ahead, call), 0)
        old = tracks(START + ahead)
        new = tracks(START + ahead + [call])
        self.assertEqual([new[k] for k in range(8) if k != track], [old[k] for k in range(8) if k != track])
        return new[track]

    def test_d_above_0(self):
        self.assertEqual(self.row(THREE, longer(3, 12, 3)), [(0, 5, 10), (1, 5, 13), (2, 5, 10)])

    def test_d_below_0(self):
        self.assertEqual(self.row(THREE, longer(3, 12, -3)), [(0, 5, 10), (1, 5, 7), (2, 5, 10)])

    def test_d_0(self):
        self.assertEqual(self.row(THREE, longer(3, 12, 0)), [(0, 5, 10), (1, 5, 10), (2, 5, 10)])

    def test_what_is_seen(self):
        old = seen_of(START + THREE, 3, 40)
        for d in (3, -3, 5, -9):
            new = seen_of(START + THREE + [longer(3, 12, d)], 3, 60)
            piece = [(1, 5 + k) for k in range(10 + d)]
            self.assertEqual(new[:40], (old[:10] + piece + old[20:] + [None] * 20)[:40])
            self.assertEqual(asked(START + THREE + [longer(3, 12, d)], [LENGTH]), [[30 + d]])

    def test_first_and_last_frame_of_the_piece(self):
        for at in (10, 19):
            self.assertEqual(self.row(THREE, longer(3, at, 1)), [(0, 5, 10), (1, 5, 11), (2, 5, 10)])
        self.assertEqual(self.row(THREE, longer(3, 9, 1)), [(0, 5, 11), (1, 5, 10), (2, 5, 10)])
        self.assertEqual(self.row(THREE, longer(3, 20, 1)), [(0, 5, 10), (1, 5, 10), (2, 5, 11)])

    def test_needs_no_other_piece(self):
        self.assertEqual(self.row([over(3, 0, 0, 5, 10)], longer(3, 0, 2)), [(0, 5, 12)])
        self.assertEqual(self.row([over(3, 0, 0, 5, 10)], longer(3, 9, -2)), [(0, 5, 8)])

    def test_nothing_before_and_behind_does_no_harm(self):
        ahead = [over(3, 4, 0, 5, 10), over(3, 20, 1, 0, 2)]
        self.assertEqual(self.row(ahead, longer(3, 4, 3)), [("-", 4), (0, 5, 13), ("-", 6), (1, 0, 2)])
        self.assertEqual(self.row(ahead, longer(3, 4, -3)), [("-", 4), (0, 5, 7), ("-", 6), (1, 0, 2)])

    def test_pieces_that_go_on_from_one_another_stay_two(self):
        ahead = [over(3, 0, 0, 0, 20), cut(3, 10)]
        self.assertEqual(self.row(ahead, longer(3, 0, 4)), [(0, 0, 14), (0, 10, 10)])
        self.assertEqual(self.row([over(3, 0, 0, 0, 5), over(3, 5, 0, 8, 2)], longer(3, 0, 3)), [(0, 0, 8), (0, 8, 2)])

    def test_other_tracks_stay(self):
        for d in (7, -7, 0):
            self.assertEqual(len(self.row(THREE + OTHERS, longer(3, 0, d))), 3)
        for at in (0, 12, 25):
            new = START + THREE + OTHERS + [longer(3, at, 4)]
            for track in (0, 1, 2, 4, 5, 6, 7):
                self.assertEqual(seen_of(new, track, 40), seen_of(START + THREE + OTHERS, track, 40))

    def test_wrong_numbers(self):
        for track, at in ((8, 12), (BIGGEST, 12), (3, MOST + 1), (3, BIGGEST), (8, MOST + 1)):
            for d in (0, 1, -1, LOWEST_D, HIGHEST_D):
                self.assertEqual(self.answer(THREE, longer(track, at, d)), -22)

    def test_no_piece_at_the_frame(self):
        for d in (0, 1, -1):
            for at in (30, 31, MOST):
                self.assertEqual(self.answer(THREE, longer(3, at, d)), -61)
            self.assertEqual(self.answer(THREE, longer(7, 0, d)), -61)
            self.assertEqual(self.answer(THREE, longer(0, MOST, d)), -61)

    def test_piece_of_nothing(self):
        ahead = THREE + [lift(3, 10, 20)]
        for at in (10, 15, 19):
            for d in (0, 1, -1):
                self.assertEqual(self.answer(ahead, longer(3, at, d)), -61)

    def test_no_frame_left(self):
        self.assertEqual(self.row(THREE, longer(3, 12, -9)), [(0, 5, 10), (1, 5, 1), (2, 5, 10)])
        for d in (-10, -11, LOWEST_D):
            self.assertEqual(self.answer(THREE, longer(3, 12, d)), -61)

    def test_frames_that_the_source_has(self):
        self.assertEqual(self.row(THREE, longer(3, 12, 5)), [(0, 5, 10), (1, 5, 15), (2, 5, 10)])
        for d in (6, 7, MOST, HIGHEST_D):
            self.assertEqual(self.answer(THREE, longer(3, 12, d)), -61)

    def test_too_long(self):
        ahead = [over(3, 0, 31, 0, 100), over(3, 100, 31, 0, MOST - 110)]
        self.assertEqual(self.answer(ahead, longer(3, 0, 10)), 0)
        self.assertEqual(self.answer(ahead, longer(3, 0, 11)), -28)
        self.assertEqual(self.answer(ahead, longer(3, 100, 10)), 0)
        self.assertEqual(self.answer(ahead, longer(3, 100, 11)), -28)
        self.assertEqual(self.answer([over(3, 1, 31, 0, 1)], longer(3, 1, MOST - 2)), 0)
        self.assertEqual(self.answer([over(3, 1, 31, 0, 1)], longer(3, 1, MOST - 1)), -28)

    def test_longest_track_made_shorter(self):
        ahead = [over(3, 0, 31, 0, MOST)]
        self.assertEqual(self.row(ahead, longer(3, MOST - 1, 1 - MOST)), [(31, 0, 1)])
        self.assertEqual(self.row(ahead, longer(3, MOST - 1, 0)), [(31, 0, MOST)])
        self.assertEqual(self.answer(ahead, longer(3, 0, -MOST)), -61)
        self.assertEqual([self.answer(ahead, longer(3, at, -1)) for at in (MOST, MOST + 1)], [-61, -22])

    def test_it_can_not_be_is_named_ahead_of_too_long(self):
        ahead = [over(3, 0, 0, 0, 30), over(3, 30, 31, 0, MOST - 30)]
        self.assertEqual(self.answer(ahead, longer(3, 0, 1)), -61)
        self.assertEqual(self.answer(ahead, longer(3, 30, MOST)), -61)

    def test_on_a_full_track(self):
        ahead = pieces_of_one(0, 256, 3)
        self.assertEqual(self.row(ahead, longer(0, 4, 2), 0), [(0, 0, 3), (0, 0, 5)] + [(0, 0, 3)] * 254)

    def test_tracks_0_and_7(self):
        for track in (0, 7):
            self.assertEqual(self.row([over(track, 0, 0, 5, 5)], longer(track, 0, 1), track), [(0, 5, 6)])


if __name__ == "__main__":
    unittest.main()
