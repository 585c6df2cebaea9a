"""The interface: how calls stand in the list, what is given back, and that nothing is kept or changed."""

import unittest

from filmcuts.tracks import answers
from helper import (BEGIN, LENGTH, MOST, REDO, UNDO, WRITE, answered, between, cut, first_difference, flat, frame, lift,
                    longer, out, over, piece, pieces_of_one, read, roll, seen, slide, slip, source, time)


class Unchanged(list):
    """A list that tells when it's changed, be it for a while."""

    def refuse(self, *given):
        raise AssertionError("what was handed in is changed")

    __setitem__ = __delitem__ = __iadd__ = __imul__ = refuse
    append = extend = insert = pop = remove = clear = sort = reverse = refuse


MANY = [BEGIN, source(0, 100), source(1, 50), over(0, 0, 0, 0, 10), between(0, 5, 1, 0, 5), over(1, 3, 0, 3, 9),
        cut(0, 2), lift(0, 12, 13), out(4, 6), slip(0, 0, 1), roll(0, 2, 1), slide(0, 3, -1), slip(2, 0, 0),
        source(0, 7), over(0, 0, 2, 0, 1), over(0, MOST, 0, 0, 1), cut(8, 0)]
TOLD = [1, 0] * 12 + [1, -61, 1, -17, 1, -2, 1, -28, 1, -22]

LISTED = b"0 3 5\n- 2\n1 0 1\n" + b";\n" * 8
ASKED = [BEGIN, source(0, 100), source(1, 50), read(LISTED), longer(0, 4, 1), UNDO, REDO, REDO, seen(0, 5), seen(0, 6),
         seen(8, 0), piece(0, 1), piece(0, 2), piece(0, 3), piece(8, 0), LENGTH, time(3, 1800), time(4, 0),
         frame(3, 0, 1, 0, 2), frame(3, 0, 1, 0, 1), read(b";\n"), UNDO, WRITE, read(b"7 0 1\n" + b";\n" * 8),
         read(b""), LENGTH]
ANSWERED = [1, 0, 1, 0, 1, 0, 1, 0, 1, 0, 1, 0, 1, 0, 1, -61, 3, 1, 0, 8, 1, 0,
            1, -22, 4, 1, 255, 0, 2, 4, 1, 1, 0, 1, 1, 0, 1, -22, 1, 9, 5, 1, 0, 1, 0, 2, 1, -22,
            1, 1800, 1, -22, 1, -71, 1, 0, 1 + len(LISTED), 0] + list(LISTED) + [1, -2, 1, -71, 1, 8]


class Answers(unittest.TestCase):
    def test_begin_alone(self):
        self.assertEqual(answers([0]), [1, 0])

    def test_calls_by_their_numbers(self):
        calls = [0, 1, 0, 10, 2, 0, 0, 0, 0, 9, 3, 1, 0, 0, 0, 9, 4, 2, 0, 1, 5, 20, 21, 6, 0, 3, 6, 0, 15,
                 7, 0, 9, 0, 8, 0, 16, 0, 9, 0, 16, 0]
        self.assertEqual(answers(calls), [1, 0] * 10 + [1, -61])

    def test_answers_in_order(self):
        self.assertEqual(answers(flat(MANY)), TOLD)
        self.assertEqual(answers(flat(ASKED)), ANSWERED)

    def test_later_calls_by_their_numbers(self):
        calls = [0, 1, 0, 10, 2, 0, 0, 0, 0, 9, 10, 0, 0, 1, 11, 12, 13, 0, 9, 14, 0, 0, 15, 16, 0, 25,
                 17, 0, 0, 0, 1, 1, 18, 19, 16, 59, 10, 59, 10, 59, 10, 59, 10, 59, 10, 59, 10, 59, 10, 59, 10, 15]
        self.assertEqual(answers(calls), [1, 0] * 6 + [3, 1, 0, 9, 4, 1, 0, 0, 10, 1, 10, 5, 1, 0, 0, 1, 1, 1, 25,
                                                       24, 0, 48, 32, 48, 32, 49, 48, 10] + [59, 10] * 8 + [1, 0, 1, 0])

    def test_read_of_no_numbers_and_of_numbers_like_calls(self):
        self.assertEqual(answers([0, 19, 0, 15, 19, 3, 0, 11, 19, 15, 19, 0]),
                         [1, 0, 1, -71, 1, 0, 1, -71, 1, 0, 1, -71])

    def test_kinds(self):
        for calls in (MANY, ASKED):
            given = answers(flat(calls))
            self.assertIs(type(given), list)
            self.assertEqual({type(number) for number in given}, {int})

    def test_nothing_is_kept(self):
        for calls in (MANY, ASKED):
            self.assertEqual(answers(flat(calls)), answers(flat(calls)))
        self.assertEqual(answers([0, 1, 0, 10]), [1, 0, 1, 0])
        self.assertEqual(answers([0, 1, 0, 10]), [1, 0, 1, 0])
        self.assertEqual(answers([0, 7, 0, 0, 0]), [1, 0, 1, -61])

    def test_nothing_is_kept_to_undo_or_be_seen(self):
        ahead = [BEGIN, source(0, 9), over(0, 0, 0, 0, 5), over(1, 0, 0, 0, 6), UNDO]
        for _ in range(2):
            self.assertEqual(answers(flat(ahead)), [1, 0] * 5)
            self.assertEqual(answered([BEGIN, UNDO, REDO, LENGTH, seen(0, 0), piece(0, 0), over(0, 0, 0, 0, 1), WRITE]),
                             [[0], [-61], [-61], [0], [0], [0], [-2], [0] + [59, 10] * 8])

    def test_given_back_list_is_ones_own(self):
        for calls in ([0], flat(ASKED)):
            first = answers(calls)
            expected = list(first)
            first.append(5)
            first[0] = 77
            self.assertEqual(answers(calls), expected)

    def test_handed_in_is_not_changed(self):
        for numbers, expected in ((flat(MANY), TOLD), (flat(ASKED), ANSWERED)):
            calls = Unchanged(numbers)
            self.assertEqual(answers(calls), expected)
            self.assertEqual(list(calls), numbers)

    def test_begin_again_in_the_midst(self):
        self.assertEqual(answers(flat(MANY + MANY)), TOLD + TOLD)
        self.assertEqual(answers(flat(MANY + ASKED + ASKED + MANY)), TOLD + ANSWERED + ANSWERED + TOLD)


class LongestLists(unittest.TestCase):
    def check(self, calls, expected=None):
        self.assertLessEqual(len(calls), 2000)
        numbers = flat(calls)
        self.assertLessEqual(len(numbers), 30000)
        handed = Unchanged(numbers)
        given = answers(handed)
        self.assertIsNone(first_difference(list(handed), numbers))
        self.assertIsNone(first_difference(answers(numbers), given))
        if expected is not None:
            self.assertIsNone(first_difference(given, expected))
        return given

    def test_2000_edits(self):
        calls = [BEGIN, source(0, 100)] + [over(7, 16777215, 0, 99, 1)] * 1998
        self.check(calls, [1, 0] * 2000)

    def test_2000_calls_and_30000_numbers(self):
        t = LISTED + b"0"
        calls = [BEGIN, source(0, 100), source(1, 50)] + [read(LISTED), UNDO, REDO, longer(0, 0, 1)] * 499 + [UNDO]
        left = 30000 - len(flat(calls)) - 2
        calls.append(read(t * (left // len(t)) + t[:left % len(t)]))
        self.assertEqual((len(calls), len(flat(calls))), (2001, 30000))
        calls.pop(1999)
        self.check(calls, [1, 0] * 1999 + [1, -71])

    def test_2000_calls_on_full_tracks(self):
        row = b"0 0 1\n" * 255 + b"0 0 2\n;\n"
        calls = [BEGIN, source(0, 9), read(row * 8)]
        calls += [cut(track % 8, 256) for track in range(900)] + [seen(7, 256)] * 900 + [longer(0, 0, 0)] * 197
        self.check(calls, [1, 0] * 3 + [1, -28] * 900 + [3, 1, 0, 1] * 900 + [1, 0] * 197)

    def test_written_as_often_as_may_be(self):
        calls = [BEGIN, source(31, MOST)] + [between(k % 8, 0, 31, MOST - 1, 1) for k in range(256)]
        text = answers(flat(calls + [WRITE]))
        text = text[2 * len(calls):]
        count = (1000000 - 1 - 2 * len(calls)) // len(text)
        self.assertGreater(count, 20)
        self.check(calls + [WRITE] * count, [1, 0] * len(calls) + text * count)

    def test_asked_only(self):
        calls = [BEGIN, source(0, 99)] + pieces_of_one(0, 256, 3)
        for k in range(290):
            calls += [seen(0, 3 * k), piece(0, k), LENGTH, time(3, k), frame(3, 0, 0, 0, 0), UNDO if k % 2 else REDO]
        given = self.check(calls)
        self.assertIsNone(first_difference(given[:516], [1, 0] * 258))


if __name__ == "__main__":
    unittest.main()
