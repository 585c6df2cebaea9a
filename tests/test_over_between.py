"""Point 2: over and between."""

import unittest

from helper import (BEGIN, BIGGEST, MOST, between, cut, lift, over, pieces_of_one, slip, source, told, tracks)

START = [BEGIN, source(0, 100), source(1, 50), source(31, MOST)]
PUTS = (over, between)


class Both(unittest.TestCase):
    """What over and between refuse alike."""

    def check(self, calls, expected):
        for put in PUTS:
            with self.subTest(put=put.__name__):
                made = [put(*given) for given in calls]
                self.assertEqual(told(START + made), [0] * len(START) + expected)

    def test_track_7_and_8(self):
        self.check([(7, 0, 0, 0, 1), (8, 0, 0, 0, 1), (BIGGEST, 0, 0, 0, 1)], [0, -22, -22])

    def test_at_above_the_most(self):
        self.check([(0, MOST + 1, 0, 0, 1), (0, BIGGEST, 0, 0, 1)], [-22, -22])

    def test_at_the_most_is_no_wrong_number_but_too_long(self):
        self.check([(0, MOST, 0, 0, 1)], [-28])

    def test_no_such_source(self):
        self.check([(0, 0, 2, 0, 1), (0, 0, 32, 0, 1), (0, 0, 255, 0, 1), (0, 0, BIGGEST, 0, 1)], [-2] * 4)

    def test_len_0(self):
        self.check([(0, 0, 0, 0, 0), (0, 0, 0, 100, 0), (0, 0, 31, MOST, 0)], [-2] * 3)

    def test_frames_that_the_source_has_or_not(self):
        self.check([(0, 0, 0, 0, 100), (1, 0, 0, 99, 1), (2, 0, 0, 40, 60)], [0, 0, 0])
        self.check([(0, 0, 0, 0, 101), (0, 0, 0, 1, 100), (0, 0, 0, 99, 2), (0, 0, 0, 100, 1)], [-2] * 4)
        self.check([(0, 0, 0, BIGGEST, 1), (0, 0, 0, 0, BIGGEST), (0, 0, 0, BIGGEST, BIGGEST)], [-2] * 3)

    def test_longest_source(self):
        self.check([(0, 0, 31, 0, MOST + 1), (0, 0, 31, 1, MOST), (0, 0, 31, 0, MOST)], [-2, -2, 0])

    def test_first_named_is_answered(self):
        self.check([(8, 0, 2, 0, 0), (8, MOST, 0, 0, 1), (0, MOST + 1, 0, 0, 101)], [-22, -22, -22])
        self.check([(0, MOST, 2, 0, 1), (0, MOST, 0, 0, 0), (0, MOST, 0, 0, 101)], [-2, -2, -2])

    def test_longest_track(self):
        self.check([(0, MOST - 1, 0, 0, 1)], [0])
        self.check([(0, MOST - 1, 0, 0, 2)], [-28])
        self.check([(0, MOST - 100, 0, 0, 100)], [0])
        self.check([(0, MOST - 99, 0, 0, 100)], [-28])

    def test_refused_changes_nothing(self):
        ahead = START + [over(0, 5, 0, 7, 10), over(1, 0, 1, 0, 5)]
        refused = [(8, 0, 0, 0, 1), (0, MOST + 1, 0, 0, 1), (0, 7, 2, 0, 1), (0, 7, 0, 0, 0), (0, 7, 0, 0, 101),
                   (0, MOST, 0, 0, 1), (1, MOST - 3, 0, 0, 4 + 1)]
        for put in PUTS:
            made = [put(*given) for given in refused]
            self.assertEqual(told(ahead + made)[len(ahead):], [-22, -22, -2, -2, -2, -28, -28])
            self.assertEqual(tracks(ahead + made), tracks(ahead))


class Over(unittest.TestCase):
    def row(self, *calls):
        calls = START + list(calls)
        self.assertEqual(told(calls), [0] * len(calls))
        rows = tracks(calls)
        self.assertEqual(rows[:3] + rows[4:], [[]] * 7)
        return rows[3]

    def test_on_an_empty_track(self):
        self.assertEqual(self.row(over(3, 0, 0, 20, 5)), [(0, 20, 5)])

    def test_behind_the_end_nothing_is_before_it(self):
        self.assertEqual(self.row(over(3, 4, 0, 20, 5)), [("-", 4), (0, 20, 5)])
        self.assertEqual(self.row(over(3, 0, 0, 0, 3), over(3, 4, 1, 2, 5)), [(0, 0, 3), ("-", 1), (1, 2, 5)])

    def test_at_the_end_two_pieces_that_go_on_stay_two(self):
        self.assertEqual(self.row(over(3, 0, 0, 0, 5), over(3, 5, 0, 5, 5)), [(0, 0, 5), (0, 5, 5)])

    def test_in_the_midst_of_a_piece_parts_it(self):
        self.assertEqual(self.row(over(3, 0, 0, 10, 20), over(3, 5, 1, 0, 3)), [(0, 10, 5), (1, 0, 3), (0, 18, 12)])

    def test_with_the_same_frames_as_were_there_parts_it_too(self):
        self.assertEqual(self.row(over(3, 0, 0, 10, 20), over(3, 5, 0, 15, 3)), [(0, 10, 5), (0, 15, 3), (0, 18, 12)])

    def test_at_edges(self):
        ahead = [over(3, 0, 0, 0, 5), over(3, 5, 1, 0, 5), over(3, 10, 0, 50, 5)]
        self.assertEqual(self.row(*ahead, over(3, 5, 0, 90, 5)), [(0, 0, 5), (0, 90, 5), (0, 50, 5)])
        self.assertEqual(self.row(*ahead, over(3, 0, 1, 20, 5)), [(1, 20, 5), (1, 0, 5), (0, 50, 5)])
        self.assertEqual(self.row(*ahead, over(3, 10, 1, 20, 5)), [(0, 0, 5), (1, 0, 5), (1, 20, 5)])
        self.assertEqual(self.row(*ahead, over(3, 0, 1, 20, 15)), [(1, 20, 15)])

    def test_over_several_pieces_and_over_the_end(self):
        ahead = [over(3, 0, 0, 0, 5), over(3, 5, 1, 0, 5), over(3, 10, 0, 50, 5)]
        self.assertEqual(self.row(*ahead, over(3, 4, 1, 20, 7)), [(0, 0, 4), (1, 20, 7), (0, 51, 4)])
        self.assertEqual(self.row(*ahead, over(3, 12, 1, 20, 7)), [(0, 0, 5), (1, 0, 5), (0, 50, 2), (1, 20, 7)])

    def test_over_nothing(self):
        ahead = [over(3, 10, 0, 0, 5)]
        self.assertEqual(self.row(*ahead, over(3, 4, 1, 0, 2)), [("-", 4), (1, 0, 2), ("-", 4), (0, 0, 5)])
        self.assertEqual(self.row(*ahead, over(3, 0, 1, 0, 10)), [(1, 0, 10), (0, 0, 5)])
        self.assertEqual(self.row(*ahead, over(3, 8, 1, 0, 4)), [("-", 8), (1, 0, 4), (0, 2, 3)])

    def test_256_pieces_and_no_more(self):
        full = START + pieces_of_one(0, 256, 3)
        self.assertEqual(told(full), [0] * len(full))
        self.assertEqual(len(tracks(full)[0]), 256)
        asked = [over(0, 768, 0, 0, 1), over(0, 769, 0, 0, 1), over(0, 1, 0, 0, 1), over(0, 0, 0, 0, 1),
                 over(0, 0, 0, 0, 3), over(0, 1, 0, 0, 3), over(0, 1, 0, 0, 4), over(0, 766, 0, 0, 9),
                 over(1, 0, 0, 0, 1)]
        for call, answer in zip(asked, [-28, -28, -28, -28, 0, -28, -28, -28, 0]):
            with self.subTest(call=call):
                self.assertEqual(told(full + [call])[-1], answer)
                if answer < 0:
                    self.assertEqual(tracks(full + [call]), tracks(full))

    def test_nothing_before_counts_as_a_piece(self):
        row = START + pieces_of_one(0, 255, 1)
        self.assertEqual(told(row + [over(0, 256, 0, 0, 1)])[-1], -28)
        self.assertEqual(told(row + [over(0, 255, 0, 0, 1)])[-1], 0)

    def test_as_many_pieces_as_before_by_covering_others(self):
        full = START + pieces_of_one(0, 256, 3)
        self.assertEqual(told(full + [over(0, 1, 0, 0, 5)])[-1], 0)
        self.assertEqual(tracks(full + [over(0, 1, 0, 0, 5)])[0][:3], [(0, 0, 1), (0, 0, 5), (0, 0, 3)])


class Between(unittest.TestCase):
    def rows(self, *calls):
        calls = START + list(calls)
        self.assertEqual(told(calls), [0] * len(calls))
        return tracks(calls)

    def test_on_an_empty_track(self):
        self.assertEqual(self.rows(between(3, 0, 0, 20, 5)), [[]] * 3 + [[(0, 20, 5)]] + [[]] * 4)

    def test_behind_the_end_nothing_is_before_it(self):
        self.assertEqual(self.rows(between(3, 4, 0, 20, 5))[3], [("-", 4), (0, 20, 5)])
        self.assertEqual(self.rows(over(3, 0, 1, 0, 2), between(3, 4, 0, 0, 5))[3], [(1, 0, 2), ("-", 2), (0, 0, 5)])

    def test_at_the_end(self):
        self.assertEqual(self.rows(over(3, 0, 0, 0, 4), between(3, 4, 0, 4, 5))[3], [(0, 0, 4), (0, 4, 5)])

    def test_at_the_beginning_an_edge_and_in_the_midst(self):
        ahead = [over(3, 0, 0, 0, 4), over(3, 4, 1, 0, 4)]
        self.assertEqual(self.rows(*ahead, between(3, 0, 1, 9, 3))[3], [(1, 9, 3), (0, 0, 4), (1, 0, 4)])
        self.assertEqual(self.rows(*ahead, between(3, 4, 1, 9, 3))[3], [(0, 0, 4), (1, 9, 3), (1, 0, 4)])
        self.assertEqual(self.rows(*ahead, between(3, 1, 1, 9, 3))[3], [(0, 0, 1), (1, 9, 3), (0, 1, 3), (1, 0, 4)])

    def test_within_nothing(self):
        self.assertEqual(self.rows(over(3, 9, 0, 0, 4), between(3, 2, 1, 0, 1))[3],
                         [("-", 2), (1, 0, 1), ("-", 7), (0, 0, 4)])
        self.assertEqual(self.rows(over(3, 9, 0, 0, 4), between(3, 0, 1, 0, 1))[3], [(1, 0, 1), ("-", 9), (0, 0, 4)])

    def test_other_tracks_get_nothing_there(self):
        ahead = [over(0, 0, 0, 0, 9), over(1, 0, 0, 0, 4), over(1, 4, 1, 0, 4), over(2, 0, 0, 0, 4),
                 over(4, 6, 0, 0, 4), over(5, 4, 1, 0, 2), over(6, 0, 0, 0, 2), over(6, 4, 0, 0, 2),
                 over(7, 0, 0, 0, 4), over(7, 6, 0, 0, 1)]
        self.assertEqual(self.rows(*ahead, between(3, 4, 1, 9, 3)), [
            [(0, 0, 4), ("-", 3), (0, 4, 5)],
            [(0, 0, 4), ("-", 3), (1, 0, 4)],
            [(0, 0, 4)],
            [("-", 4), (1, 9, 3)],
            [("-", 9), (0, 0, 4)],
            [("-", 7), (1, 0, 2)],
            [(0, 0, 2), ("-", 5), (0, 0, 2)],
            [(0, 0, 4), ("-", 5), (0, 0, 1)],
        ])

    def test_first_frames_of_the_other_tracks(self):
        rows = self.rows(over(0, 0, 0, 0, 9), over(7, 2, 0, 0, 9), between(1, 0, 1, 9, 3))
        self.assertEqual(rows[0], [("-", 3), (0, 0, 9)])
        self.assertEqual(rows[1], [(1, 9, 3)])
        self.assertEqual(rows[7], [("-", 5), (0, 0, 9)])

    def test_track_named_would_have_too_many_pieces(self):
        full = START + pieces_of_one(2, 256, 3)
        for at in (0, 1, 3, 768, 769):
            self.assertEqual(told(full + [between(2, at, 0, 0, 1)])[-1], -28)
            self.assertEqual(tracks(full + [between(2, at, 0, 0, 1)]), tracks(full))
        less = START + pieces_of_one(2, 255, 3)
        self.assertEqual([told(less + [between(2, at, 0, 0, 1)])[-1] for at in (0, 1, 3, 765, 766)],
                         [0, -28, 0, 0, -28])

    def test_another_track_would_have_too_many_pieces(self):
        for other in (0, 7):
            full = START + pieces_of_one(other, 256, 3)
            answers_by_at = [told(full + [between(2, at, 0, 0, 1)])[-1] for at in (0, 1, 3, 767, 768, 769)]
            self.assertEqual(answers_by_at, [-28, -28, -28, -28, 0, 0])
            self.assertEqual(tracks(full + [between(2, 1, 0, 0, 1)]), tracks(full))

    def test_nothing_put_beside_nothing_is_no_more_pieces(self):
        full = START + pieces_of_one(0, 256, 3) + [lift(0, 300, 303)]
        self.assertEqual([told(full + [between(2, at, 0, 0, 1)])[-1] for at in (299, 300, 301, 303, 304)],
                         [-28, 0, 0, 0, -28])

    def test_another_track_parted_at_255(self):
        row = START + pieces_of_one(0, 255, 3)
        self.assertEqual([told(row + [between(2, at, 0, 0, 1)])[-1] for at in (0, 1, 3)], [0, -28, 0])
        row = START + pieces_of_one(0, 254, 3)
        self.assertEqual([told(row + [between(2, at, 0, 0, 1)])[-1] for at in (0, 1, 3)], [0, 0, 0])

    def test_track_named_would_be_too_long(self):
        row = START + [over(2, 0, 31, 0, MOST - 10)]
        for at in (0, 5, MOST - 10):
            self.assertEqual(told(row + [between(2, at, 0, 0, 10)])[-1], 0)
            self.assertEqual(told(row + [between(2, at, 0, 0, 11)])[-1], -28)
            self.assertEqual(tracks(row + [between(2, at, 0, 0, 11)]), tracks(row))

    def test_another_track_would_be_too_long(self):
        row = START + [over(6, 0, 31, 0, MOST - 10)]
        for at in (0, 5, MOST - 11):
            self.assertEqual(told(row + [between(2, at, 0, 0, 10)])[-1], 0)
            self.assertEqual(told(row + [between(2, at, 0, 0, 11)])[-1], -28)
            self.assertEqual(tracks(row + [between(2, at, 0, 0, 11)]), tracks(row))
        # At its end the other track gets nothing, so the length of the one named decides alone.
        self.assertEqual(told(row + [between(2, MOST - 10, 0, 0, 10)])[-1], 0)

    def test_longest_tracks(self):
        row = START + [over(6, 0, 31, 0, MOST)]
        self.assertEqual(told(row + [between(2, MOST - 1, 0, 0, 1)])[-1], -28)
        self.assertEqual(told(row + [between(2, 0, 0, 0, 1)])[-1], -28)
        self.assertEqual(told(row + [over(2, 0, 31, 0, MOST)])[-1], 0)

    def test_goes_on_as_two_pieces(self):
        calls = START + [over(0, 0, 0, 0, 10), cut(0, 4), between(0, 4, 0, 4, 1), slip(0, 5, 1)]
        self.assertEqual(tracks(calls)[0], [(0, 0, 4), (0, 4, 1), (0, 5, 6)])


if __name__ == "__main__":
    unittest.main()
