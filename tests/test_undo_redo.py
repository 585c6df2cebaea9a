"""Point 4: undo and redo."""

import unittest

from helper import (BEGIN, LENGTH, MOST, REDO, UNDO, WRITE, answered, between, cut, frame, lift, listed, longer, out,
                    over, piece, read, roll, seen, slide, slip, source, time, told, tracks)

START = [BEGIN, source(0, 100), source(1, 50)]
THREE = [over(3, 0, 0, 5, 10), over(3, 10, 1, 5, 10), over(3, 20, 0, 50, 10)]
EDITS = [over(3, 5, 1, 0, 8), over(0, 0, 1, 0, 8), between(3, 5, 1, 0, 8), between(0, 25, 1, 0, 8), lift(3, 5, 15),
         out(5, 15), cut(3, 5), slip(3, 12, 2), roll(3, 12, 2), slide(3, 12, 2), longer(3, 12, 2), longer(3, 12, -2),
         read(b"0 0 5\n;\n;\n;\n;\n;\n;\n;\n1 2 3\n;\n")]
AS_BEFORE = [cut(3, 10), cut(3, 0), cut(7, 5), cut(3, MOST), lift(0, 0, 5), lift(3, 30, 40), out(30, 40),
             slip(3, 12, 0), roll(3, 12, 0), slide(3, 12, 0), longer(3, 12, 0), over(3, 10, 1, 5, 10),
             read(b";\n;\n;\n0 5 10\n1 5 10\n0 50 10\n;\n;\n;\n;\n;\n")]
REFUSED = [(over(8, 0, 0, 0, 1), -22), (over(0, 0, 9, 0, 1), -2), (over(0, MOST, 0, 0, 1), -28),
           (between(0, MOST + 1, 0, 0, 1), -22), (between(0, 0, 0, 0, 0), -2), (between(0, MOST, 0, 0, 1), -28),
           (lift(0, 5, 5), -22), (out(5, 4), -22), (cut(8, 0), -22), (slip(3, 12, 1000), -61), (roll(3, 0, 0), -61),
           (slide(3, 0, 0), -61), (longer(3, 12, -10), -61), (read(b""), -71), (source(0, 5), -17),
           (read(b"0 0 0\n;\n;\n;\n;\n;\n;\n;\n;\n"), -2), (source(32, 5), -22),
           (read(b"- 16777216\n0 0 1\n;\n;\n;\n;\n;\n;\n;\n;\n"), -28)]
QUESTIONS = [seen(3, 5), seen(8, 0), piece(3, 0), piece(8, 0), LENGTH, time(3, 1800), time(4, 0), frame(3, 0, 1, 0, 2),
             frame(3, 0, 1, 0, 1), WRITE, source(5, 10)]


def numbered(count, start=0):
    """So many edits, each of which leaves another list behind."""
    return [over(0, k, 0, 99 - k, 1) for k in range(start, start + count)]


class Undo(unittest.TestCase):
    def test_nothing_to_undo(self):
        self.assertEqual(told([BEGIN, UNDO, UNDO]), [0, -61, -61])
        self.assertEqual(told(START + [UNDO])[-1], -61)

    def test_each_edit(self):
        for edit in EDITS:
            with self.subTest(edit=edit):
                calls = START + THREE + [edit]
                self.assertNotEqual(listed(calls), listed(START + THREE))
                self.assertEqual(told(calls + [UNDO]), [0] * (len(calls) + 1))
                self.assertEqual(listed(calls + [UNDO]), listed(START + THREE))
                self.assertEqual(told(calls + [UNDO, REDO])[-1], 0)
                self.assertEqual(listed(calls + [UNDO, REDO]), listed(calls))

    def test_back_to_the_beginning(self):
        edits = THREE + [slip(3, 12, 2), roll(3, 12, 2), slide(3, 15, 2), longer(3, 15, 2), longer(3, 15, -3),
                         cut(3, 5), over(3, 5, 1, 0, 8), over(0, 0, 1, 0, 8), between(3, 5, 1, 0, 8),
                         between(0, 25, 1, 0, 8), lift(3, 5, 15), out(5, 15), read(b"0 7 5\n" + b";\n" * 8)]
        calls = START + edits
        self.assertEqual(told(calls), [0] * len(calls))
        for count in range(len(edits) + 1):
            self.assertEqual(listed(calls + [UNDO] * count), listed(calls[:len(calls) - count]))
        self.assertEqual(told(calls + [UNDO] * (len(edits) + 1))[-2:], [0, -61])

    def test_31_32_33_and_more(self):
        for count in (1, 2, 31, 32, 33, 34, 64, 65, 90):
            calls = START + numbered(count)
            most = min(count, 32)
            answers = told(calls + [UNDO] * (most + 3))[len(calls):]
            self.assertEqual(answers, [0] * most + [-61] * 3)
            for times in (1, most - 1, most, most + 1):
                left = count - min(times, most)
                self.assertEqual(listed(calls + [UNDO] * times), listed(START + numbered(left)))

    def test_an_edit_that_comes_out_as_all_was_before(self):
        for edit in AS_BEFORE:
            with self.subTest(edit=edit):
                calls = START + THREE + [edit]
                self.assertEqual(listed(calls), listed(START + THREE))
                self.assertEqual(told(calls + [UNDO] * 5)[-5:], [0, 0, 0, 0, -61])
                self.assertEqual(listed(calls + [UNDO]), listed(START + THREE))
                self.assertEqual(listed(calls + [UNDO, UNDO]), listed(START + THREE[:2]))

    def test_refused_is_nothing_to_undo(self):
        for edit, answer in REFUSED:
            with self.subTest(edit=edit):
                calls = START + THREE + [edit] + [UNDO] * 4
                self.assertEqual(told(calls)[-5:], [answer, 0, 0, 0, -61])
                self.assertEqual(told([BEGIN, source(0, 9), edit, UNDO])[-1], -61)

    def test_what_is_asked_is_nothing_to_undo(self):
        calls = START + THREE + QUESTIONS + [UNDO] * 4
        self.assertEqual(answered(calls)[-4:], [[0], [0], [0], [-61]])
        self.assertEqual(listed(calls), listed(START))

    def test_sources_stay(self):
        calls = START + [source(7, 10), over(0, 0, 7, 0, 10), source(8, 20), UNDO]
        self.assertEqual(told(calls + [source(7, 10), source(8, 20), over(0, 0, 7, 0, 10), over(0, 0, 8, 0, 20)])[-4:],
                         [-17, -17, 0, 0])
        self.assertEqual(tracks(calls), [[]] * 8)

    def test_source_is_no_edit(self):
        self.assertEqual(told(START + [over(0, 0, 0, 0, 5), source(7, 5), UNDO, UNDO])[-2:], [0, -61])
        self.assertEqual(told(START + [over(0, 0, 0, 0, 5), UNDO, source(7, 5), REDO, REDO])[-2:], [0, -61])

    def test_undo_alone_is_no_edit(self):
        calls = START + numbered(3) + [UNDO, UNDO, UNDO, UNDO, UNDO, REDO, REDO, REDO, REDO]
        self.assertEqual(told(calls)[-9:], [0, 0, 0, -61, -61, 0, 0, 0, -61])
        self.assertEqual(listed(calls), listed(START + numbered(3)))


class Redo(unittest.TestCase):
    def test_nothing_to_do_again(self):
        self.assertEqual(told([BEGIN, REDO, REDO]), [0, -61, -61])
        self.assertEqual(told(START + THREE + [REDO])[-1], -61)
        self.assertEqual(listed(START + THREE + [REDO]), listed(START + THREE))

    def test_in_order(self):
        calls = START + numbered(5) + [UNDO] * 4
        for count in range(5):
            self.assertEqual(listed(calls + [REDO] * count), listed(START + numbered(1 + count)))
        self.assertEqual(told(calls + [REDO] * 5)[-5:], [0, 0, 0, 0, -61])

    def test_in_turns(self):
        calls = START + numbered(4)
        left = 4
        for call, count in ((UNDO, 1), (REDO, 1), (UNDO, 2), (REDO, 1), (UNDO, 3), (REDO, 3), (UNDO, 1), (REDO, 2)):
            answers = told(calls + [call] * count)[-count:]
            calls = calls + [call] * count
            possible = min(count, left if call == UNDO else 4 - left)
            self.assertEqual(answers, [0] * possible + [-61] * (count - possible))
            left += possible if call == REDO else -possible
            self.assertEqual(listed(calls), listed(START + numbered(left)))

    def test_behind_32_undoings(self):
        for count in (32, 33, 40):
            calls = START + numbered(count) + [UNDO] * 32
            self.assertEqual(told(calls + [REDO] * 33)[-33:], [0] * 32 + [-61])
            for again in (1, 31, 32, 33):
                left = count - 32 + min(again, 32)
                self.assertEqual(listed(calls + [REDO] * again), listed(START + numbered(left)))
            back = calls + [REDO] * 32 + [UNDO] * 33
            self.assertEqual(told(back)[-33:], [0] * 32 + [-61])
            self.assertEqual(listed(back), listed(START + numbered(count - 32)))

    def test_an_edit_behind_an_undoing(self):
        for edit in EDITS + AS_BEFORE:
            with self.subTest(edit=edit):
                calls = START + THREE + [cut(3, 1), UNDO, edit]
                self.assertEqual(told(calls + [REDO])[-1], -61)
                self.assertEqual(listed(calls + [REDO]), listed(START + THREE + [edit]))
                self.assertEqual(told(calls + [REDO, UNDO, UNDO, UNDO, UNDO, UNDO])[-5:], [0, 0, 0, 0, -61])
                self.assertEqual(listed(calls + [UNDO]), listed(START + THREE))
                self.assertEqual(listed(calls + [UNDO, REDO]), listed(START + THREE + [edit]))
                self.assertEqual(told(calls + [UNDO, REDO, REDO])[-1], -61)

    def test_edits_behind_many_undoings(self):
        calls = START + numbered(40) + [UNDO] * 20 + numbered(5, 60)
        self.assertEqual(told(calls + [REDO])[-1], -61)
        # Of the 32 before, 12 are left behind the 20 undoings, and the five new ones.
        self.assertEqual(told(calls + [UNDO] * 18)[-18:], [0] * 17 + [-61])
        self.assertEqual(listed(calls + [UNDO] * 17), listed(START + numbered(8)))

    def test_refused_behind_an_undoing(self):
        for edit, answer in REFUSED:
            with self.subTest(edit=edit):
                calls = START + THREE + [cut(3, 1), cut(3, 2), UNDO, UNDO, edit]
                self.assertEqual(told(calls + [REDO, REDO, REDO])[-4:], [answer, 0, 0, -61])
                self.assertEqual(listed(calls + [REDO, REDO]), listed(START + THREE + [cut(3, 1), cut(3, 2)]))

    def test_asked_behind_an_undoing(self):
        calls = START + THREE + [cut(3, 1), UNDO] + QUESTIONS + [REDO, REDO]
        self.assertEqual(answered(calls)[-2:], [[0], [-61]])
        self.assertEqual(listed(calls), listed(START + THREE + [cut(3, 1)]))


class BeginAgain(unittest.TestCase):
    def test_nothing_to_undo_or_do_again(self):
        for ahead in (START + THREE, START + THREE + [UNDO, UNDO], START + numbered(40) + [UNDO] * 9):
            calls = ahead + [BEGIN, UNDO, REDO]
            self.assertEqual(told(calls)[-3:], [0, -61, -61])
            self.assertEqual(listed(calls), ";\n" * 8)

    def test_edits_behind_it(self):
        calls = START + numbered(5) + [UNDO] + START + numbered(2)
        self.assertEqual(told(calls + [REDO, UNDO, UNDO, UNDO, REDO, REDO, REDO])[-7:], [-61, 0, 0, -61, 0, 0, -61])


if __name__ == "__main__":
    unittest.main()
