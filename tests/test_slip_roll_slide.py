"""Point 3: slip, roll and slide."""

import unittest

from helper import (BEGIN, BIGGEST, HIGHEST_D, LOWEST_D, MOST, cut, lift, over, pieces_of_one, roll, slide, slip,
                    source, told, tracks)

START = [BEGIN, source(0, 30), source(1, 20), source(2, 25)]
# Frames 0 to 9, 10 to 19 and 20 to 29, with 5 frames of each source before what's shown.
THREE = [over(3, 0, 0, 5, 10), over(3, 10, 1, 5, 10), over(3, 20, 2, 5, 10)]
ALL = (slip, roll, slide)


class Edits(unittest.TestCase):
    def answer(self, ahead, call):
        answer = told(START + ahead + [call])[-1]
        if answer < 0:
            self.assertEqual(tracks(START + ahead + [call]), tracks(START + ahead))
        return answer

    def row(self, ahead, call, track=3):
        self.assertEqual(self.answer(ahead, call), 0)
        old = tracks(START + ahead)
        new = tracks(START + ahead + [call])
        self.assertEqual([new[k] for k in range(8) if k != track], [old[k] for k in range(8) if k != track])
        self.assertEqual(sum(piece[-1] for piece in new[track]), sum(piece[-1] for piece in old[track]))
        return new[track]


class Refusals(Edits):
    def test_wrong_numbers(self):
        for edit in ALL:
            for track, at in ((8, 12), (BIGGEST, 12), (3, MOST + 1), (3, BIGGEST), (8, MOST + 1)):
                for d in (0, 1, -1, LOWEST_D, HIGHEST_D):
                    self.assertEqual(self.answer(THREE, edit(track, at, d)), -22)

    def test_no_piece_at_the_frame(self):
        for edit in ALL:
            for at in (30, 31, MOST):
                self.assertEqual(self.answer(THREE, edit(3, at, 0)), -61)
            self.assertEqual(self.answer(THREE, edit(7, 0, 0)), -61)
            self.assertEqual(self.answer(THREE, edit(0, MOST, 0)), -61)

    def test_piece_itself_of_nothing(self):
        ahead = THREE + [lift(3, 10, 20)]
        for edit in ALL:
            for at in (10, 15, 19):
                for d in (0, 1, -1):
                    self.assertEqual(self.answer(ahead, edit(3, at, d)), -61)

    def test_numbers_d_far_away(self):
        for edit in ALL:
            for d in (LOWEST_D, HIGHEST_D, LOWEST_D + 1, -MOST, MOST):
                self.assertEqual(self.answer(THREE, edit(3, 12, d)), -61)

    def test_d_0_changes_nothing(self):
        for edit in ALL:
            self.assertEqual(self.row(THREE, edit(3, 12, 0)), tracks(START + THREE)[3])

    def test_tracks_0_and_7(self):
        for track in (0, 7):
            ahead = [over(track, at, 0, 5, 5) for at in (0, 5, 10)]
            for edit in ALL:
                self.assertEqual(self.answer(ahead, edit(track, 7, 1)), 0)

    def test_on_a_full_track(self):
        ahead = pieces_of_one(0, 256, 3)
        for edit in ALL:
            self.assertEqual(self.answer(ahead, edit(0, 4, 0)), 0)
        self.assertEqual(self.row(ahead, slip(0, 4, 2), 0)[:3], [(0, 0, 3), (0, 2, 3), (0, 0, 3)])


class Slip(Edits):
    def test_later_and_earlier(self):
        self.assertEqual(self.row(THREE, slip(3, 12, 3)), [(0, 5, 10), (1, 8, 10), (2, 5, 10)])
        self.assertEqual(self.row(THREE, slip(3, 12, -3)), [(0, 5, 10), (1, 2, 10), (2, 5, 10)])

    def test_first_and_last_frame_of_the_piece(self):
        for at in (10, 19):
            self.assertEqual(self.row(THREE, slip(3, at, 1)), [(0, 5, 10), (1, 6, 10), (2, 5, 10)])
        self.assertEqual(self.row(THREE, slip(3, 9, 1)), [(0, 6, 10), (1, 5, 10), (2, 5, 10)])
        self.assertEqual(self.row(THREE, slip(3, 20, 1)), [(0, 5, 10), (1, 5, 10), (2, 6, 10)])

    def test_needs_no_other_piece(self):
        self.assertEqual(self.row([over(3, 0, 0, 5, 10)], slip(3, 0, 1)), [(0, 6, 10)])
        self.assertEqual(self.row([over(3, 4, 0, 5, 10)], slip(3, 4, 1)), [("-", 4), (0, 6, 10)])

    def test_frames_that_the_source_has(self):
        self.assertEqual(self.row(THREE, slip(3, 12, 5)), [(0, 5, 10), (1, 10, 10), (2, 5, 10)])
        self.assertEqual(self.answer(THREE, slip(3, 12, 6)), -61)
        self.assertEqual(self.row(THREE, slip(3, 12, -5)), [(0, 5, 10), (1, 0, 10), (2, 5, 10)])
        self.assertEqual(self.answer(THREE, slip(3, 12, -6)), -61)

    def test_longest_source(self):
        ahead = [source(9, MOST), over(3, 0, 9, 0, 1)]
        self.assertEqual(self.row(ahead, slip(3, 0, MOST - 1)), [(9, MOST - 1, 1)])
        self.assertEqual(self.answer(ahead, slip(3, 0, MOST)), -61)
        self.assertEqual(self.row(ahead + [slip(3, 0, MOST - 1)], slip(3, 0, 1 - MOST)), [(9, 0, 1)])

    def test_last_frame_of_the_longest_track(self):
        ahead = [source(9, MOST), over(3, 0, 9, 0, MOST)]
        self.assertEqual([self.answer(ahead, slip(3, at, 0)) for at in (MOST - 1, MOST, MOST + 1)], [0, -61, -22])


class Roll(Edits):
    def test_later_and_earlier(self):
        self.assertEqual(self.row(THREE, roll(3, 12, 3)), [(0, 5, 13), (1, 8, 7), (2, 5, 10)])
        self.assertEqual(self.row(THREE, roll(3, 12, -3)), [(0, 5, 7), (1, 2, 13), (2, 5, 10)])

    def test_last_piece_needs_none_behind(self):
        self.assertEqual(self.row(THREE, roll(3, 29, 1)), [(0, 5, 10), (1, 5, 11), (2, 6, 9)])

    def test_none_before(self):
        for at in (0, 9):
            for d in (0, 1, -1):
                self.assertEqual(self.answer(THREE, roll(3, at, d)), -61)

    def test_one_before_of_nothing(self):
        for d in (0, 1, -1):
            self.assertEqual(self.answer([over(3, 4, 0, 5, 10)], roll(3, 4, d)), -61)

    def test_nothing_behind_does_no_harm(self):
        ahead = THREE + [over(3, 31, 0, 0, 1)]
        self.assertEqual(self.row(ahead, roll(3, 20, 1))[1:], [(1, 5, 11), (2, 6, 9), ("-", 1), (0, 0, 1)])

    def test_no_frame_left(self):
        ahead = [source(9, 100), over(3, 0, 9, 50, 4), over(3, 4, 9, 20, 4)]
        self.assertEqual(self.row(ahead, roll(3, 4, 3)), [(9, 50, 7), (9, 23, 1)])
        self.assertEqual([self.answer(ahead, roll(3, 4, d)) for d in (4, 5)], [-61, -61])
        self.assertEqual(self.row(ahead, roll(3, 4, -3)), [(9, 50, 1), (9, 17, 7)])
        self.assertEqual([self.answer(ahead, roll(3, 4, d)) for d in (-4, -5)], [-61, -61])

    def test_frames_that_the_source_has(self):
        ahead = [source(9, 100), over(3, 0, 9, 78, 20), over(3, 20, 9, 2, 20)]
        self.assertEqual(self.row(ahead, roll(3, 25, 2)), [(9, 78, 22), (9, 4, 18)])
        self.assertEqual(self.answer(ahead, roll(3, 25, 3)), -61)
        self.assertEqual(self.row(ahead, roll(3, 25, -2)), [(9, 78, 18), (9, 0, 22)])
        self.assertEqual(self.answer(ahead, roll(3, 25, -3)), -61)

    def test_pieces_that_go_on_from_one_another(self):
        ahead = [over(3, 0, 0, 0, 20), cut(3, 10)]
        self.assertEqual(self.row(ahead, roll(3, 10, 4)), [(0, 0, 14), (0, 14, 6)])


class Slide(Edits):
    def test_later_and_earlier(self):
        self.assertEqual(self.row(THREE, slide(3, 12, 3)), [(0, 5, 13), (1, 5, 10), (2, 8, 7)])
        self.assertEqual(self.row(THREE, slide(3, 12, -3)), [(0, 5, 7), (1, 5, 10), (2, 2, 13)])

    def test_none_before_or_behind(self):
        for at in (0, 9, 20, 29):
            for d in (0, 1, -1):
                self.assertEqual(self.answer(THREE, slide(3, at, d)), -61)
        self.assertEqual(self.answer([over(3, 0, 0, 5, 10)], slide(3, 0, 0)), -61)

    def test_one_before_or_behind_of_nothing(self):
        before = [over(3, 5, 0, 5, 5), over(3, 10, 1, 5, 5)]
        behind = [over(3, 0, 0, 5, 5), over(3, 5, 1, 5, 5), over(3, 15, 2, 5, 5)]
        for d in (0, 1, -1):
            self.assertEqual(self.answer(before, slide(3, 5, d)), -61)
            self.assertEqual(self.answer(behind, slide(3, 5, d)), -61)

    def test_no_frame_left(self):
        ahead = [source(9, 100), over(3, 0, 9, 50, 4), over(3, 4, 9, 10, 6), over(3, 10, 9, 20, 4)]
        self.assertEqual(self.row(ahead, slide(3, 4, 3)), [(9, 50, 7), (9, 10, 6), (9, 23, 1)])
        self.assertEqual([self.answer(ahead, slide(3, 4, d)) for d in (4, 5)], [-61, -61])
        self.assertEqual(self.row(ahead, slide(3, 4, -3)), [(9, 50, 1), (9, 10, 6), (9, 17, 7)])
        self.assertEqual([self.answer(ahead, slide(3, 4, d)) for d in (-4, -5)], [-61, -61])

    def test_frames_that_the_source_has(self):
        ahead = [source(9, 100), over(3, 0, 9, 78, 20), over(3, 20, 1, 0, 20), over(3, 40, 9, 2, 20)]
        self.assertEqual(self.row(ahead, slide(3, 25, 2)), [(9, 78, 22), (1, 0, 20), (9, 4, 18)])
        self.assertEqual(self.answer(ahead, slide(3, 25, 3)), -61)
        self.assertEqual(self.row(ahead, slide(3, 25, -2)), [(9, 78, 18), (1, 0, 20), (9, 0, 22)])
        self.assertEqual(self.answer(ahead, slide(3, 25, -3)), -61)

    def test_what_is_outside_stays(self):
        ahead = THREE + [over(3, 30, 0, 0, 3), over(3, 40, 1, 0, 3)]
        self.assertEqual(self.row(ahead, slide(3, 25, 2)),
                         [(0, 5, 10), (1, 5, 12), (2, 5, 10), (0, 2, 1), ("-", 7), (1, 0, 3)])


if __name__ == "__main__":
    unittest.main()
