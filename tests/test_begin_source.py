"""Point 1: begin and source."""

import unittest

from helper import BEGIN, BIGGEST, MOST, cut, over, slip, source, told, tracks


class Begin(unittest.TestCase):
    def test_answers_0(self):
        self.assertEqual(told([BEGIN]), [0])

    def test_no_sources_and_tracks_without_pieces(self):
        self.assertEqual(tracks([BEGIN]), [[], [], [], [], [], [], [], []])
        calls = [over(0, 0, number, 0, 1) for number in range(32)]
        self.assertEqual(told([BEGIN] + calls), [0] + [-2] * 32)

    def test_again_takes_all_away(self):
        calls = [BEGIN, source(3, 10), over(2, 0, 3, 0, 5), slip(2, 0, 1), BEGIN]
        self.assertEqual(tracks(calls), [[]] * 8)
        asked = [slip(2, 0, 0), over(2, 0, 3, 0, 5), source(3, 4), over(2, 0, 3, 0, 5), over(2, 0, 3, 0, 4)]
        self.assertEqual(told(calls + asked), [0] * 5 + [-61, -2, 0, -2, 0])


class Source(unittest.TestCase):
    def test_first_and_last_source(self):
        self.assertEqual(told([BEGIN, source(0, 10), source(31, 10)]), [0, 0, 0])

    def test_each_source_has_its_own_frames(self):
        calls = [BEGIN] + [source(number, number + 1) for number in range(32)]
        for number in range(32):
            calls += [over(0, 0, number, 0, number + 2), over(0, 0, number, 0, number + 1)]
        self.assertEqual(told(calls), [0] * 33 + [-2, 0] * 32)

    def test_source_above_31(self):
        self.assertEqual(told([BEGIN, source(32, 10), source(255, 10), source(BIGGEST, 10)]), [0, -22, -22, -22])

    def test_len(self):
        calls = [BEGIN, source(0, 0), source(0, MOST + 1), source(0, BIGGEST), source(0, 1), source(1, MOST)]
        self.assertEqual(told(calls), [0, -22, -22, -22, 0, 0])

    def test_there_already(self):
        self.assertEqual(told([BEGIN, source(5, 10), source(5, 10), source(5, 11)]), [0, 0, -17, -17])

    def test_refused_changes_nothing(self):
        calls = [BEGIN, source(5, 10), source(5, 20), over(0, 0, 5, 0, 11), source(5, 0), over(0, 0, 5, 0, 10)]
        self.assertEqual(told(calls), [0, 0, -17, -2, -22, 0])
        self.assertEqual(told([BEGIN, source(6, MOST + 1), over(0, 0, 6, 0, 1), source(6, 1)]), [0, -22, -2, 0])

    def test_wrong_number_is_named_ahead_of_there_already(self):
        self.assertEqual(told([BEGIN, source(5, 10), source(5, 0), source(5, MOST + 1)]), [0, 0, -22, -22])

    def test_tracks_stay(self):
        calls = [BEGIN, source(0, 10), over(0, 0, 0, 0, 5), cut(0, 2)]
        self.assertEqual(tracks(calls + [source(1, 5), source(0, 3), source(40, 3)]), tracks(calls))


if __name__ == "__main__":
    unittest.main()
