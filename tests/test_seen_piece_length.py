"""Point 5: seen, piece and length; and what the edits show by them."""

import unittest

from helper import (BEGIN, BIGGEST, LENGTH, MOST, asked, between, cut, lift, listed, longer, out, over, piece,
                    pieces_of_one, roll, seen, seen_of, slide, slip, source, told)

START = [BEGIN, source(0, 100), source(1, 50), source(31, MOST)]
# Frames 0 to 9, 10 to 14 of nothing, 15 to 19, 20 to 29.
ROW = [over(3, 0, 0, 20, 10), over(3, 15, 1, 7, 5), over(3, 20, 1, 12, 10)]


def frames(number, start, count):
    return [(number, start + k) for k in range(count)]


NONE = [None]
ROW_SEEN = frames(0, 20, 10) + NONE * 5 + frames(1, 7, 5) + frames(1, 12, 10)


class Seen(unittest.TestCase):
    def ask(self, ahead, *places):
        return asked(START + ahead, [seen(track, at) for track, at in places])

    def test_at_edges(self):
        self.assertEqual(self.ask(ROW, (3, 0), (3, 1), (3, 9)), [[1, 0, 20], [1, 0, 21], [1, 0, 29]])
        self.assertEqual(self.ask(ROW, (3, 15), (3, 19), (3, 20), (3, 29)),
                         [[1, 1, 7], [1, 1, 11], [1, 1, 12], [1, 1, 21]])

    def test_in_nothing(self):
        self.assertEqual(self.ask(ROW, (3, 10), (3, 12), (3, 14)), [[0]] * 3)

    def test_at_the_end_and_behind_it(self):
        self.assertEqual(self.ask(ROW, (3, 30), (3, 31), (3, 1000), (3, MOST)), [[0]] * 4)
        self.assertEqual(self.ask(ROW, (0, 0), (7, 0), (7, MOST)), [[0]] * 3)

    def test_wrong_numbers(self):
        self.assertEqual(self.ask(ROW, (8, 0), (BIGGEST, 0), (3, MOST + 1), (3, BIGGEST), (8, MOST + 1),
                                  (BIGGEST, BIGGEST)), [[-22]] * 6)

    def test_tracks_0_and_7(self):
        ahead = [over(0, 0, 0, 3, 2), over(7, 0, 1, 4, 2)]
        self.assertEqual(self.ask(ahead, (0, 1), (7, 1), (1, 1), (6, 1)), [[1, 0, 4], [1, 1, 5], [0], [0]])

    def test_source_0_and_its_frame_0(self):
        self.assertEqual(self.ask([over(0, 0, 0, 0, 1)], (0, 0), (0, 1)), [[1, 0, 0], [0]])

    def test_longest_track(self):
        ahead = [over(3, 0, 31, 0, MOST)]
        self.assertEqual(self.ask(ahead, (3, MOST - 1), (3, MOST), (3, MOST + 1)), [[1, 31, MOST - 1], [0], [-22]])

    def test_changes_nothing(self):
        questions = [seen(3, 5), seen(3, 12), seen(3, 99), seen(8, 0)]
        self.assertEqual(listed(START + ROW + questions), listed(START + ROW))


class Piece(unittest.TestCase):
    def ask(self, ahead, *places):
        return asked(START + ahead, [piece(track, k) for track, k in places])

    def test_each(self):
        self.assertEqual(self.ask(ROW, (3, 0), (3, 1), (3, 2), (3, 3), (3, 4)),
                         [[1, 0, 20, 10], [1, 255, 0, 5], [1, 1, 7, 5], [1, 1, 12, 10], [0]])

    def test_none_there(self):
        self.assertEqual(self.ask(ROW, (3, 5), (3, 255), (3, 256), (3, MOST + 1), (3, BIGGEST)), [[0]] * 5)
        self.assertEqual(self.ask(ROW, (0, 0), (7, 0), (7, BIGGEST)), [[0]] * 3)

    def test_tracks_7_and_8(self):
        ahead = [over(7, 0, 0, 99, 1)]
        self.assertEqual(self.ask(ahead, (7, 0), (7, 1), (8, 0), (8, 1), (BIGGEST, 0), (BIGGEST, BIGGEST)),
                         [[1, 0, 99, 1], [0], [-22], [-22], [-22], [-22]])

    def test_nothing_at_the_beginning_and_none_at_the_end(self):
        ahead = [over(3, 4, 0, 0, 6), over(3, 10, 0, 6, 6), lift(3, 10, 16)]
        self.assertEqual(self.ask(ahead, (3, 0), (3, 1), (3, 2)), [[1, 255, 0, 4], [1, 0, 0, 6], [0]])

    def test_nothing_beside_nothing_is_one(self):
        ahead = [over(3, 0, 0, 0, 30), lift(3, 5, 10), lift(3, 15, 20), lift(3, 10, 15)]
        self.assertEqual(self.ask(ahead, (3, 0), (3, 1), (3, 2), (3, 3)),
                         [[1, 0, 0, 5], [1, 255, 0, 15], [1, 0, 20, 10], [0]])

    def test_piece_255_of_256(self):
        ahead = pieces_of_one(3, 255, 2) + [over(3, 510, 1, 7, 9)]
        self.assertEqual(self.ask(ahead, (3, 254), (3, 255), (3, 256)), [[1, 0, 0, 2], [1, 1, 7, 9], [0]])

    def test_longest_piece(self):
        self.assertEqual(self.ask([over(3, 0, 31, 0, MOST)], (3, 0)), [[1, 31, 0, MOST]])
        self.assertEqual(self.ask([over(3, MOST - 1, 31, MOST - 1, 1)], (3, 0), (3, 1)),
                         [[1, 255, 0, MOST - 1], [1, 31, MOST - 1, 1]])

    def test_changes_nothing(self):
        questions = [piece(3, 1), piece(3, 9), piece(8, 0)]
        self.assertEqual(listed(START + ROW + questions), listed(START + ROW))


class Length(unittest.TestCase):
    def ask(self, *calls):
        return asked(START + list(calls), [LENGTH])[0]

    def test_without_pieces(self):
        self.assertEqual(asked([BEGIN], [LENGTH]), [[0]])
        self.assertEqual(self.ask(over(0, 0, 0, 0, 5), lift(0, 0, 5)), [0])
        self.assertEqual(self.ask(over(0, 0, 0, 0, 5), BEGIN), [0])

    def test_longest_track_counts(self):
        for track in (0, 3, 7):
            self.assertEqual(self.ask(over(track, 0, 0, 0, 9), over(2, 0, 0, 0, 5), over(5, 0, 0, 0, 8)), [9])

    def test_nothing_before_counts(self):
        self.assertEqual(self.ask(over(0, 90, 0, 0, 9), over(1, 0, 0, 0, 50)), [99])

    def test_nothing_behind_does_not(self):
        self.assertEqual(self.ask(over(0, 0, 0, 0, 9), lift(0, 5, 9), lift(0, 20, 30)), [5])

    def test_longest(self):
        self.assertEqual(self.ask(over(0, 0, 31, 0, MOST)), [MOST])
        self.assertEqual(self.ask(over(0, MOST - 1, 0, 0, 1), over(0, MOST, 0, 0, 1)), [MOST])

    def test_not_the_sum_of_tracks(self):
        self.assertEqual(self.ask(*[over(track, 0, 0, 0, 7) for track in range(8)]), [7])


class Edits(unittest.TestCase):
    """What each edit shows at each frame."""

    def check(self, edit, expected, others=(), ahead=()):
        calls = START + ROW + list(ahead) + [edit]
        self.assertEqual(told(calls)[-1], 0)
        expected = expected + NONE * (45 - len(expected))
        self.assertEqual(seen_of(calls, 3, 45), expected)
        for track, row in others:
            self.assertEqual(seen_of(calls, track, 45), row + NONE * (45 - len(row)))

    def test_over(self):
        self.check(over(3, 5, 0, 60, 12), ROW_SEEN[:5] + frames(0, 60, 12) + ROW_SEEN[17:])
        self.check(over(3, 28, 0, 60, 12), ROW_SEEN[:28] + frames(0, 60, 12))
        self.check(over(3, 33, 0, 60, 2), ROW_SEEN + NONE * 3 + frames(0, 60, 2))

    def test_between(self):
        ahead = [over(0, 0, 0, 0, 9), over(7, 12, 0, 0, 9)]
        others = [(0, frames(0, 0, 5) + NONE * 4 + frames(0, 5, 4)), (7, NONE * 16 + frames(0, 0, 9)), (1, [])]
        self.check(between(3, 5, 1, 40, 4), ROW_SEEN[:5] + frames(1, 40, 4) + ROW_SEEN[5:], others, ahead)
        self.check(between(3, 33, 1, 40, 4), ROW_SEEN + NONE * 3 + frames(1, 40, 4), [(0, frames(0, 0, 9))], ahead)

    def test_lift(self):
        self.check(lift(3, 4, 17), ROW_SEEN[:4] + NONE * 13 + ROW_SEEN[17:])
        self.check(lift(3, 25, 99), ROW_SEEN[:25])

    def test_out(self):
        ahead = [over(0, 0, 0, 0, 9), over(7, 12, 0, 0, 9)]
        others = [(0, frames(0, 0, 4)), (7, NONE * 4 + frames(0, 5, 4)), (1, [])]
        self.check(out(4, 17), ROW_SEEN[:4] + ROW_SEEN[17:], others, ahead)

    def test_cut(self):
        for at in (0, 5, 10, 12, 15, 17, 20, 29, 30, 40):
            self.check(cut(3, at), ROW_SEEN)

    def test_slip(self):
        self.check(slip(3, 17, 4), ROW_SEEN[:15] + frames(1, 11, 5) + ROW_SEEN[20:])
        self.check(slip(3, 17, -4), ROW_SEEN[:15] + frames(1, 3, 5) + ROW_SEEN[20:])

    def test_roll(self):
        ahead = [slip(3, 17, 20)]
        old = ROW_SEEN[:15] + frames(1, 27, 5) + ROW_SEEN[20:]
        self.check(roll(3, 22, 4), old[:15] + frames(1, 27, 9) + old[24:], ahead=ahead)
        self.check(roll(3, 22, -4), old[:16] + frames(1, 8, 4) + old[20:], ahead=ahead)

    def test_slide(self):
        ahead = [over(3, 30, 0, 70, 8)]
        row = ROW_SEEN + frames(0, 70, 8)
        self.check(slide(3, 22, 3), row[:15] + frames(1, 7, 8) + frames(1, 12, 10) + row[33:], ahead=ahead)
        self.check(slide(3, 22, -3), row[:15] + frames(1, 7, 2) + frames(1, 12, 10) + frames(0, 67, 11), ahead=ahead)

    def test_longer(self):
        self.check(longer(3, 5, 3), ROW_SEEN[:10] + frames(0, 30, 3) + ROW_SEEN[10:])
        self.check(longer(3, 5, -3), ROW_SEEN[:7] + ROW_SEEN[10:])

    def test_put_between_and_taken_out_again(self):
        ahead = START + ROW + [over(0, 0, 0, 0, 9), over(7, 12, 0, 0, 19), over(5, 20, 31, 5, 3)]
        old = [seen_of(ahead, track, 45) for track in range(8)]
        for track in (3, 0, 1):
            for at in (0, 3, 10, 12, 15, 20, 27, 30, 31, 40):
                calls = ahead + [between(track, at, 1, 40, 6), out(at, at + 6)]
                self.assertEqual([seen_of(calls, other, 45) for other in range(8)], old)
                self.assertEqual(asked(calls, [LENGTH]), [[31]])

    def test_slips_rolls_and_slides_keep_lengths_and_what_is_outside(self):
        ahead = START + ROW + [over(3, 30, 0, 70, 8), over(3, 38, 31, 9, 5), over(2, 3, 0, 0, 30)]
        old = [seen_of(ahead, track, 50) for track in range(8)]
        for edit, start, end in ((slip, 20, 30), (roll, 15, 30), (slide, 15, 38)):
            for d in (-3, -1, 0, 1, 3):
                calls = ahead + [edit(3, 22, d)]
                self.assertEqual(told(calls)[-1], 0)
                new = [seen_of(calls, track, 50) for track in range(8)]
                self.assertEqual(new[:3] + new[4:], old[:3] + old[4:])
                self.assertEqual(new[3][:start] + new[3][end:], old[3][:start] + old[3][end:])
                self.assertEqual(asked(calls, [LENGTH]), [[43]])


if __name__ == "__main__":
    unittest.main()
