"""Point 6: time and frame."""

import unittest

from helper import (BEGIN, BIGGEST, LENGTH, MOST, REDO, UNDO, WRITE, answered, asked, first_difference, frame, over,
                    source, time)

A_SECOND = (24, 25, 30, 30)
# By kind 3: frames of an hour, and of the ten minutes that an hour has six of.
HOUR = 107892
TEN = 17982


def times_of(kind, numbers):
    """What time answers to each, asked in lists no longer than may be."""
    told = []
    for start in range(0, len(numbers), 1999):
        told += asked([BEGIN], [time(kind, number) for number in numbers[start:start + 1999]])
    return told


def frames_of(kind, times):
    told = []
    for start in range(0, len(times), 1999):
        told += asked([BEGIN], [frame(kind, *given) for given in times[start:start + 1999]])
    return told


def every_time(kind, hours):
    """All times in order, but those left out."""
    for h in range(hours):
        for m in range(60):
            for sec in range(60):
                for f in range(A_SECOND[kind]):
                    if not (kind == 3 and m % 10 and sec == 0 and f < 2):
                        yield h, m, sec, f


class Time(unittest.TestCase):
    def ask(self, kind, *numbers):
        return asked([BEGIN], [time(kind, number) for number in numbers])

    def test_first_frames(self):
        for kind, count in enumerate(A_SECOND):
            self.assertEqual(self.ask(kind, 0, 1, count - 1, count, count + 1, 2 * count),
                             [[1, 0, 0, 0, 0], [1, 0, 0, 0, 1], [1, 0, 0, 0, count - 1], [1, 0, 0, 1, 0],
                              [1, 0, 0, 1, 1], [1, 0, 0, 2, 0]])

    def test_minutes_and_hours_with_nothing_left_out(self):
        for kind in (0, 1, 2):
            count = A_SECOND[kind]
            self.assertEqual(self.ask(kind, 60 * count - 1, 60 * count, 3600 * count - 1, 3600 * count),
                             [[1, 0, 0, 59, count - 1], [1, 0, 1, 0, 0], [1, 0, 59, 59, count - 1], [1, 1, 0, 0, 0]])

    def test_minutes_of_kind_3(self):
        self.assertEqual(self.ask(3, 1799, 1800, 1801, 1827, 1828), [
            [1, 0, 0, 59, 29], [1, 0, 1, 0, 2], [1, 0, 1, 0, 3], [1, 0, 1, 0, 29], [1, 0, 1, 1, 0]])
        self.assertEqual(self.ask(3, 3597, 3598), [[1, 0, 1, 59, 29], [1, 0, 2, 0, 2]])
        self.assertEqual(self.ask(3, 1800 + 8 * 1798 - 1, 1800 + 8 * 1798), [[1, 0, 8, 59, 29], [1, 0, 9, 0, 2]])
        self.assertEqual(self.ask(3, TEN - 1, TEN, TEN + 1, TEN + 2), [
            [1, 0, 9, 59, 29], [1, 0, 10, 0, 0], [1, 0, 10, 0, 1], [1, 0, 10, 0, 2]])
        self.assertEqual(self.ask(3, TEN + 1799, TEN + 1800, TEN + 3597, TEN + 3598), [
            [1, 0, 10, 59, 29], [1, 0, 11, 0, 2], [1, 0, 11, 59, 29], [1, 0, 12, 0, 2]])

    def test_hours_of_kind_3(self):
        self.assertEqual(self.ask(3, HOUR - 1, HOUR, HOUR + 1, HOUR + 1800, 99 * HOUR, 100 * HOUR - 1), [
            [1, 0, 59, 59, 29], [1, 1, 0, 0, 0], [1, 1, 0, 0, 1], [1, 1, 1, 0, 2], [1, 99, 0, 0, 0],
            [1, 99, 59, 59, 29]])

    def test_most_frames(self):
        told = [self.ask(kind, MOST, MOST + 1, BIGGEST) for kind in range(4)]
        self.assertEqual(told, [
            [[1, 194, 10, 50, 16], [-22], [-22]],
            [[1, 186, 24, 48, 16], [-22], [-22]],
            [[1, 155, 20, 40, 16], [-22], [-22]],
            [[1, 155, 30, 0, 10], [-22], [-22]]])

    def test_hours_above_99(self):
        for kind in (0, 1, 2):
            self.assertEqual(self.ask(kind, 360000 * A_SECOND[kind]), [[1, 100, 0, 0, 0]])
        self.assertEqual(self.ask(3, 100 * HOUR), [[1, 100, 0, 0, 0]])

    def test_no_such_kind(self):
        for kind in (4, 5, BIGGEST):
            self.assertEqual(self.ask(kind, 0, 1, MOST, MOST + 1, BIGGEST), [[-22]] * 5)


class Frame(unittest.TestCase):
    def ask(self, kind, *times):
        return asked([BEGIN], [frame(kind, *given) for given in times])

    def test_ordinary_times(self):
        for kind in (0, 1, 2):
            count = A_SECOND[kind]
            self.assertEqual(self.ask(kind, (0, 0, 0, 0), (0, 0, 0, 7), (0, 0, 1, 0), (0, 1, 0, 0), (1, 0, 0, 0),
                                      (3, 2, 1, 5)),
                             [[0], [7], [count], [60 * count], [3600 * count], [10921 * count + 5]])
        self.assertEqual(self.ask(3, (0, 0, 0, 0), (0, 0, 0, 1), (0, 0, 1, 0), (0, 1, 0, 2), (0, 10, 0, 0),
                                  (1, 0, 0, 0), (0, 2, 0, 2), (0, 9, 59, 29)),
                         [[0], [1], [30], [1800], [TEN], [HOUR], [3598], [TEN - 1]])

    def test_kinds(self):
        self.assertEqual([self.ask(kind, (0, 0, 0, 0)) for kind in (3, 4, 5, BIGGEST)],
                         [[[0]], [[-22]], [[-22]], [[-22]]])

    def test_hours(self):
        for kind in range(4):
            told = self.ask(kind, (99, 0, 0, 0), (100, 0, 0, 0), (BIGGEST, 0, 0, 0))
            self.assertEqual(told, [[99 * (HOUR if kind == 3 else 3600 * A_SECOND[kind])], [-22], [-22]])

    def test_minutes_and_seconds(self):
        for kind in (0, 1, 2):
            count = A_SECOND[kind]
            self.assertEqual(self.ask(kind, (0, 59, 0, 0), (0, 60, 0, 0), (0, BIGGEST, 0, 0)),
                             [[3540 * count], [-22], [-22]])
        self.assertEqual(self.ask(3, (0, 59, 1, 0), (0, 60, 0, 0), (0, 60, 1, 0), (0, BIGGEST, 0, 0)),
                         [[3541 * 30 - 2 * 54], [-22], [-22], [-22]])
        for kind in range(4):
            self.assertEqual(self.ask(kind, (0, 0, 59, 0), (0, 0, 60, 0), (0, 0, BIGGEST, 0)),
                             [[59 * A_SECOND[kind]], [-22], [-22]])

    def test_frames_a_second(self):
        for kind, count in enumerate(A_SECOND):
            self.assertEqual(self.ask(kind, (0, 0, 0, count - 1), (0, 0, 0, count), (0, 0, 0, count + 1),
                                      (0, 0, 0, BIGGEST)), [[count - 1], [-22], [-22], [-22]])

    def test_last_times(self):
        self.assertEqual([self.ask(kind, (99, 59, 59, count - 1))[0][0] for kind, count in enumerate(A_SECOND)],
                         [360000 * 24 - 1, 360000 * 25 - 1, 360000 * 30 - 1, 100 * HOUR - 1])

    def test_left_out(self):
        for h in (0, 1, 57, 99):
            for m in range(60):
                told = self.ask(3, (h, m, 0, 0), (h, m, 0, 1), (h, m, 0, 2), (h, m, 1, 0), (h, m, 1, 1))
                first = h * HOUR + (m // 10) * TEN + (m % 10) * 1798 + (2 if m % 10 else 0)
                if m % 10 == 0:
                    self.assertEqual(told, [[first], [first + 1], [first + 2], [first + 30], [first + 31]])
                else:
                    self.assertEqual(told, [[-22], [-22], [first], [first + 28], [first + 29]])

    def test_by_no_other_kind_left_out(self):
        for kind in (0, 1, 2):
            self.assertEqual(self.ask(kind, (0, 1, 0, 0), (0, 1, 0, 1)),
                             [[60 * A_SECOND[kind]], [60 * A_SECOND[kind] + 1]])

    def test_all_numbers_at_their_most(self):
        self.assertEqual(self.ask(BIGGEST, (BIGGEST, BIGGEST, BIGGEST, BIGGEST)), [[-22]])


class Both(unittest.TestCase):
    def test_each_frame_of_the_first_times(self):
        for kind in range(4):
            times = [list(given) for given in every_time(kind, 1)]
            numbers = list(range(len(times)))
            self.assertIsNone(first_difference(times_of(kind, numbers), [[1] + given for given in times]))
            self.assertIsNone(first_difference(frames_of(kind, times), [[number] for number in numbers]))

    def test_each_frame_at_the_edges_of_minutes(self):
        for kind in range(4):
            hour = HOUR if kind == 3 else 3600 * A_SECOND[kind]
            edges = [hour * h + hour * m // 60 for h in (0, 1, 9, 10, 50, 98, 99) for m in range(61)]
            numbers = [edge + k for edge in edges for k in range(-3, 4) if 0 <= edge + k < 100 * hour]
            times = times_of(kind, numbers)
            self.assertTrue(all(given[0] == 1 for given in times))
            asked_again = frames_of(kind, [given[1:] for given in times])
            self.assertIsNone(first_difference(asked_again, [[number] for number in numbers]))

    def test_spread_over_all_frames(self):
        for kind in range(4):
            hour = HOUR if kind == 3 else 3600 * A_SECOND[kind]
            numbers = list(range(0, MOST + 1, 9973))
            times = times_of(kind, numbers)
            self.assertIsNone(first_difference(sorted(times), times))
            asked_again = frames_of(kind, [given[1:] for given in times])
            expected = [[number if number < 100 * hour else -22] for number in numbers]
            self.assertIsNone(first_difference(asked_again, expected))

    def test_change_nothing(self):
        ahead = [BEGIN, source(0, 9), over(0, 0, 0, 0, 5), over(0, 0, 0, 0, 3), UNDO]
        questions = [time(3, 1800), time(4, 0), frame(3, 0, 1, 0, 2), frame(3, 0, 1, 0, 0)]
        behind = [WRITE, LENGTH, REDO, UNDO, UNDO, UNDO]
        self.assertEqual(answered(ahead + questions + behind)[-6:], answered(ahead + behind)[-6:])


if __name__ == "__main__":
    unittest.main()
